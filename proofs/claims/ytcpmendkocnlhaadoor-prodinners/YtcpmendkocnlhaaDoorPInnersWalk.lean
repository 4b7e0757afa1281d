/-
  The walk of the statement ProdInners, given what the program tells.
-/
import Derived.Test.YtcpmendkocnlhaaDoorIsw
import Derived.Test.YtcpmendkocnlhaaDoorPrdq
import Derived.Test.YtcpmendkocnlhaaDoorRni
namespace Go.Proofs.YtcpmendkocnlhaaDoor
open Go.RowKit
set_option linter.unusedVariables false

set_option maxRecDepth 100000 in
set_option maxHeartbeats 8000000 in
theorem pinners_walk (H : CNi) (f : Int) (hf : In64 f) (g : Int) (hg2 : In64 g) (c1 : Bool) (sa1 : Option Addr) (sc1 : Nat) (sz1 : List Int) (da1 : Option Addr) (dc1 : Nat) (dz1 : List Int) (c2 : Bool) (sa2 : Option Addr) (sc2 : Nat) (sz2 : List Int) (da2 : Option Addr) (dc2 : Nat) (dz2 : List Int) (w : World) (hg : HasErr w) (w8 : IsArrD w sa1 sz1 sc1 da1 dz1 dc1) (w9 : IsArrD w sa2 sz2 sc2 da2 dz2 dc2) :
    Calls Tryd.prog 4 #[.int .i64 f, .int .i64 g, .agg #[.bool c1, .slice sa1 sz1.length sc1, .slice da1 dz1.length dc1], .agg #[.bool c2, .slice sa2 sz2.length sc2, .slice da2 dz2.length dc2]] w fun e w' => e = .returned (.bool true) ∧ Below w.heap.size w w' := by
  obtain ⟨x11, x12, x3, x4, _, T⟩ := w8
  have HI1 : Hid (IsC w.heap.size w sa1 sz1 sc1 ∧ IsC w.heap.size w da1 dz1 dc1 ∧ ∀ j, In64 (nth dz1 j)) := ⟨x3, x4, T⟩
  clear x3 x4 T
  obtain ⟨x21, x22, x3, x4, _, T⟩ := w9
  have HI2 : Hid (IsC w.heap.size w sa2 sz2 sc2 ∧ IsC w.heap.size w da2 dz2 dc2 ∧ ∀ j, In64 (nth dz2 j)) := ⟨x3, x4, T⟩
  clear x3 x4 T
  replace hg := hg.al (.cells #[.bool c1, .slice sa1 sz1.length sc1, .slice da1 dz1.length dc1] 25)
  replace hg := hg.al (.cells #[.bool c2, .slice sa2 sz2.length sc2, .slice da2 dz2.length dc2] 25)
  have hb : Hid (Below w.heap.size w ((w.alloc (.cells #[.bool c1, .slice sa1 sz1.length sc1, .slice da1 dz1.length dc1] 25)).alloc (.cells #[.bool c2, .slice sa2 sz2.length sc2, .slice da2 dz2.length dc2] 25))) := ((Below.refl _ w).alloc (Nat.le_refl _) _).alloc (by simp) _
  have p1 := (Abx.new w (.bool c1) (.slice sa1 sz1.length sc1) (.slice da1 dz1.length dc1)).al (.cells #[.bool c2, .slice sa2 sz2.length sc2, .slice da2 dz2.length dc2] 25)
  have p1_0 := p1.c0
  have p1_1 := p1.c1
  have p1_2 := p1.c2
  have p2 := Abx.new1 w (.cells #[.bool c1, .slice sa1 sz1.length sc1, .slice da1 dz1.length dc1] 25) (.bool c2) (.slice sa2 sz2.length sc2) (.slice da2 dz2.length dc2)
  have p2_0 := p2.c0
  have p2_1 := p2.c1
  have p2_2 := p2.c2
  obtain ⟨S, hS⟩ : ∃ S, S = niS13 f g c1 sz1 dz1 c2 sz2 dz2 := ⟨_, rfl⟩
  obtain ⟨D, hD⟩ : ∃ D, D = niD13 f g c1 sz1 dz1 c2 sz2 dz2 := ⟨_, rfl⟩
  have HN : Hid (S = niS13 f g c1 sz1 dz1 c2 sz2 dz2 ∧ D = niD13 f g c1 sz1 dz1 c2 sz2 dz2) := ⟨hS, hD⟩
  have HL : Hid (S.length ≤ 4096 ∧ D.length ≤ 4096) := by rw [hS, hD]; exact ni13_len f g c1 sz1 dz1 c2 sz2 dz2
  clear hS hD
  go_enter Tryd.func4, Tryd.ntmps4
  go_wp2_with fail
  have h1 := innered_any f g c1 c2 sa1 sc1 sz1 da1 dc1 dz1 sa2 sc2 sz2 da2 dc2 dz2 x11 x12 x21 x22 _ ((HI1.out.1.below hb.out).mono hb.out.size) ((HI1.out.2.1.1.below hb.out).mono hb.out.size) ((HI2.out.1.below hb.out).mono hb.out.size) ((HI2.out.2.1.1.below hb.out).mono hb.out.size) HI1.out.2.2 HI2.out.2.2
  rw [← HN.out.1, ← HN.out.2] at h1
  refine (h1).mono ?_
  rintro e v1 ⟨ta, tc, ua, uc, rfl, hT, hU, hB⟩
  replace hb : Hid (Below w.heap.size w v1) := hb.out.trans (hB.mono hb.out.size)
  replace hg := hg.go hB
  replace p1 := p1.go hB
  replace p2 := p2.go hB
  replace p1_0 := p1.c0
  replace p1_1 := p1.c1
  replace p1_2 := p1.c2
  replace p2_0 := p2.c0
  replace p2_1 := p2.c1
  replace p2_2 := p2.c2
  clear hB
  clear h1
  replace hb : Hid (Below w.heap.size w (v1.alloc (.cells #[.bool false, .slice ta S.length tc, .slice ua D.length uc] 25))) := hb.out.alloc hb.out.size _
  replace hg := hg.al (.cells #[.bool false, .slice ta S.length tc, .slice ua D.length uc] 25)
  replace p1 := p1.al (.cells #[.bool false, .slice ta S.length tc, .slice ua D.length uc] 25)
  replace p2 := p2.al (.cells #[.bool false, .slice ta S.length tc, .slice ua D.length uc] 25)
  replace hT := hT.al (.cells #[.bool false, .slice ta S.length tc, .slice ua D.length uc] 25)
  replace hU := hU.al (.cells #[.bool false, .slice ta S.length tc, .slice ua D.length uc] 25)
  replace p1_0 := p1.c0
  replace p1_1 := p1.c1
  replace p1_2 := p1.c2
  replace p2_0 := p2.c0
  replace p2_1 := p2.c1
  replace p2_2 := p2.c2
  have pw := Abx.new v1 (.bool false) (.slice ta S.length tc) (.slice ua D.length uc)
  have pw_0 := pw.c0
  have pw_1 := pw.c1
  have pw_2 := pw.c2
  go_wp2_with fail
  have h2 := H f g c1 sa1 sc1 sz1 da1 dc1 dz1 c2 sa2 sc2 sz2 da2 dc2 dz2 _ hf hg2 x11 x12 x21 x22 ((HI1.out.1.below hb.out).mono hb.out.size) ((HI1.out.2.1.1.below hb.out).mono hb.out.size) ((HI2.out.1.below hb.out).mono hb.out.size) ((HI2.out.2.1.1.below hb.out).mono hb.out.size) HI1.out.2.2 HI2.out.2.2
  rw [← HN.out.1, ← HN.out.2] at h2
  refine (h2).mono ?_
  rintro e v2 ⟨xa, xc, ya, yc, rfl, hX, hY, hB⟩
  replace hb : Hid (Below w.heap.size w v2) := hb.out.trans (hB.mono hb.out.size)
  replace hg := hg.go hB
  replace p1 := p1.go hB
  replace p2 := p2.go hB
  replace hT := hT.go hB
  replace hU := hU.go hB
  replace pw := pw.go hB
  replace p1_0 := p1.c0
  replace p1_1 := p1.c1
  replace p1_2 := p1.c2
  replace p2_0 := p2.c0
  replace p2_1 := p2.c1
  replace p2_2 := p2.c2
  replace pw_0 := pw.c0
  replace pw_1 := pw.c1
  replace pw_2 := pw.c2
  clear hB
  clear h2
  replace hb : Hid (Below w.heap.size w (v2.alloc (.cells #[.bool false, .slice xa S.length xc, .slice ya D.length yc] 25))) := hb.out.alloc hb.out.size _
  replace hg := hg.al (.cells #[.bool false, .slice xa S.length xc, .slice ya D.length yc] 25)
  replace p1 := p1.al (.cells #[.bool false, .slice xa S.length xc, .slice ya D.length yc] 25)
  replace p2 := p2.al (.cells #[.bool false, .slice xa S.length xc, .slice ya D.length yc] 25)
  replace hT := hT.al (.cells #[.bool false, .slice xa S.length xc, .slice ya D.length yc] 25)
  replace hU := hU.al (.cells #[.bool false, .slice xa S.length xc, .slice ya D.length yc] 25)
  replace pw := pw.al (.cells #[.bool false, .slice xa S.length xc, .slice ya D.length yc] 25)
  replace hX := hX.al (.cells #[.bool false, .slice xa S.length xc, .slice ya D.length yc] 25)
  replace hY := hY.al (.cells #[.bool false, .slice xa S.length xc, .slice ya D.length yc] 25)
  replace p1_0 := p1.c0
  replace p1_1 := p1.c1
  replace p1_2 := p1.c2
  replace p2_0 := p2.c0
  replace p2_1 := p2.c1
  replace p2_2 := p2.c2
  replace pw_0 := pw.c0
  replace pw_1 := pw.c1
  replace pw_2 := pw.c2
  have pg := Abx.new v2 (.bool false) (.slice xa S.length xc) (.slice ya D.length yc)
  have pg_0 := pg.c0
  have pg_1 := pg.c1
  have pg_2 := pg.c2
  go_wp2_with fail
  refine (is_same (inE f g c1 sz1 dz1 c2 sz2 dz2) false S D xa xc ya yc ta tc ua uc (Nat.le_trans HL.out.1 (by decide)) (Nat.le_trans HL.out.2 (by decide)) _ hg hX.1.ints hY.1.ints hT.ints hU.ints).mono ?_
  rintro e v3 ⟨rfl, hB⟩
  replace hb : Hid (Below w.heap.size w v3) := hb.out.trans (hB.mono hb.out.size)
  replace hg := hg.go hB
  replace p1 := p1.go hB
  replace p2 := p2.go hB
  replace hT := hT.go hB
  replace hU := hU.go hB
  replace pw := pw.go hB
  replace hX := hX.go hB
  replace hY := hY.go hB
  replace pg := pg.go hB
  replace p1_0 := p1.c0
  replace p1_1 := p1.c1
  replace p1_2 := p1.c2
  replace p2_0 := p2.c0
  replace p2_1 := p2.c1
  replace p2_2 := p2.c2
  replace pw_0 := pw.c0
  replace pw_1 := pw.c1
  replace pw_2 := pw.c2
  replace pg_0 := pg.c0
  replace pg_1 := pg.c1
  replace pg_2 := pg.c2
  clear hB
  go_wp2_with fail
  go_ret
  exact ⟨rfl, hb.out⟩
end Go.Proofs.YtcpmendkocnlhaaDoor
