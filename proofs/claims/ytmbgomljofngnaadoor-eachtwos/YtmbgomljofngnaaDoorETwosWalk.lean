/-
  The walk of the statement on Two of arrays, given what the program tells.
-/
import Derived.Test.YtmbgomljofngnaaDoorErr
import Derived.Test.YtmbgomljofngnaaDoorSarr
import Derived.Test.YtmbgomljofngnaaDoorReach2b
import Derived.Test.YtmbgomljofngnaaDoorEachp
namespace Go.Proofs.YtmbgomljofngnaaDoor
open Go.RowKit
set_option linter.unusedVariables false

theorem sarr_self (c : Bool) (sa : Option Addr) (sc : Nat) (sz : List Int) (da : Option Addr) (dc : Nat) (dz : List Int) (sa' : Option Addr) (sc' : Nat) (da' : Option Addr) (dc' : Nat)
    (h1 : sz.length ≤ 9223372036854775807) (h2 : dz.length ≤ 9223372036854775807) (w : World) (hs : IsInts w.heap.size w sa sz) (hd : IsInts w.heap.size w da dz) (hs' : IsInts w.heap.size w sa' sz) (hd' : IsInts w.heap.size w da' dz) :
    Calls Tryd.prog 7 #[.agg #[.bool c, .slice sa sz.length sc, .slice da dz.length dc], .agg #[.bool c, .slice sa' sz.length sc', .slice da' dz.length dc']] w fun e w' => e = .returned (.bool true) ∧ Below w.heap.size w w' :=
  (sarr_any c c sa sc sz da dc dz sa' sc' sz da' dc' dz h1 h2 w hs hd hs' hd').mono fun e w' ⟨h, hB⟩ => ⟨by rw [h, arrB_self], hB⟩
theorem no_ints (w : World) (a : Option Addr) : IsInts w.heap.size w a [] := .inl rfl
theorem reach2_no (f : Int) (c : Bool) (sa : Option Addr) (sc : Nat) (sz : List Int) (da : Option Addr) (dc : Nat) (dz : List Int) (c' : Bool) (sa' : Option Addr) (sc' : Nat) (sz' : List Int) (da' : Option Addr) (dc' : Nat) (dz' : List Int) (h1 : sz.length ≤ 9223372036854775807) (h2 : dz.length ≤ 9223372036854775807) (h1' : sz'.length ≤ 9223372036854775807) (h2' : dz'.length ≤ 9223372036854775807) (w : World) (hs : IsInts w.heap.size w sa sz) (hd : IsInts w.heap.size w da dz) (hs' : IsInts w.heap.size w sa' sz') (hd' : IsInts w.heap.size w da' dz') (T : (∀ j, In64 (nth dz j)) ∧ ∀ j, In64 (nth dz' j)) (h : e2E f c sz dz c' sz' dz' ≠ 0) :
    Calls Tryd.prog 4 #[.int .i64 f, .agg #[.bool c, .slice sa sz.length sc, .slice da dz.length dc], .agg #[.bool c', .slice sa' sz'.length sc', .slice da' dz'.length dc']] w fun e w' => e = .returned (.tuple #[.agg #[.bool false, .slice none 0 0, .slice none 0 0], .int .i64 (e2E f c sz dz c' sz' dz')]) ∧ Below w.heap.size w w' :=
  (reach2_any f c sa sc sz da dc dz c' sa' sc' sz' da' dc' dz' h1 h2 h1' h2' w hs hd hs' hd' T).mono fun e w' h' => h'.elim (fun h1 => h1.2) (fun h1 => absurd h1.1 h)
theorem reach2_ok (f : Int) (c : Bool) (sa : Option Addr) (sc : Nat) (sz : List Int) (da : Option Addr) (dc : Nat) (dz : List Int) (c' : Bool) (sa' : Option Addr) (sc' : Nat) (sz' : List Int) (da' : Option Addr) (dc' : Nat) (dz' : List Int) (h1 : sz.length ≤ 9223372036854775807) (h2 : dz.length ≤ 9223372036854775807) (h1' : sz'.length ≤ 9223372036854775807) (h2' : dz'.length ≤ 9223372036854775807) (w : World) (hs : IsInts w.heap.size w sa sz) (hd : IsInts w.heap.size w da dz) (hs' : IsInts w.heap.size w sa' sz') (hd' : IsInts w.heap.size w da' dz') (T : (∀ j, In64 (nth dz j)) ∧ ∀ j, In64 (nth dz' j)) (h : e2E f c sz dz c' sz' dz' = 0) :
    Calls Tryd.prog 4 #[.int .i64 f, .agg #[.bool c, .slice sa sz.length sc, .slice da dz.length dc], .agg #[.bool c', .slice sa' sz'.length sc', .slice da' dz'.length dc']] w fun e w' => ∃ xa xc ya yc, e = .returned (.tuple #[.agg #[.bool false, .slice xa (shp sz sz').length xc, .slice ya (e2V f c sz dz c' sz' dz').length yc], .int .i64 0]) ∧ NewInts w.heap.size w' xa (shp sz sz') ∧ NewInts w.heap.size w' ya (e2V f c sz dz c' sz' dz') ∧ Below w.heap.size w w' :=
  (reach2_any f c sa sc sz da dc dz c' sa' sc' sz' da' dc' dz' h1 h2 h1' h2' w hs hd hs' hd' T).mono fun e w' h' => h'.elim (fun h1 => absurd h h1.1) (fun h1 => h1.2)
theorem e2E_small {f : Int} {c : Bool} {sz dz : List Int} {c' : Bool} {sz' dz' : List Int} (h : e2E f c sz dz c' sz' dz' = 0) : e2F f c sz dz c' sz' dz' = 0 ∧ e2N sz sz' ≤ 4096 := by
  have h0 : e2F f c sz dz c' sz' dz' = 0 := by
    unfold e2E at h
    split at h
    · rename_i q; exact absurd h q
    · rename_i q; simpa using q
  exact ⟨h0, (shp_ok h0).2.2⟩
set_option maxRecDepth 100000 in
set_option maxHeartbeats 4000000 in
theorem etwos_no (H : C2) (f : Int) (hf : In64 f) (c1 : Bool) (sa1 : Option Addr) (sc1 : Nat) (sz1 : List Int) (da1 : Option Addr) (dc1 : Nat) (dz1 : List Int) (c2 : Bool) (sa2 : Option Addr) (sc2 : Nat) (sz2 : List Int) (da2 : Option Addr) (dc2 : Nat) (dz2 : List Int) (w : World) (hg : HasErr w) (w1 : IsArr w sa1 sz1 da1 dz1) (w2 : IsArr w sa2 sz2 da2 dz2) (F : Hid (e2E f c1 sz1 dz1 c2 sz2 dz2 ≠ 0)) :
    Calls Tryd.prog 3 #[.int .i64 f, .agg #[.bool c1, .slice sa1 sz1.length sc1, .slice da1 dz1.length dc1], .agg #[.bool c2, .slice sa2 sz2.length sc2, .slice da2 dz2.length dc2]] w fun e w' => e = .returned (.bool true) ∧ Below w.heap.size w w' := by
  obtain ⟨x1, x2, x3, x4, _, T⟩ := w1
  obtain ⟨y1, y2, y3, y4, _, T'⟩ := w2
  have HI : Hid ((IsInts w.heap.size w sa1 sz1 ∧ IsInts w.heap.size w da1 dz1 ∧ ∀ j, In64 (nth dz1 j)) ∧ (IsInts w.heap.size w sa2 sz2 ∧ IsInts w.heap.size w da2 dz2 ∧ ∀ j, In64 (nth dz2 j))) := ⟨⟨x3, x4, T⟩, y3, y4, T'⟩
  clear x3 x4 T y3 y4 T'
  replace hg := (hg.al (.cells #[.bool c1, .slice sa1 sz1.length sc1, .slice da1 dz1.length dc1] 25)).al (.cells #[.bool c2, .slice sa2 sz2.length sc2, .slice da2 dz2.length dc2] 25)
  have hb : Hid (Below w.heap.size w ((w.alloc (.cells #[.bool c1, .slice sa1 sz1.length sc1, .slice da1 dz1.length dc1] 25)).alloc (.cells #[.bool c2, .slice sa2 sz2.length sc2, .slice da2 dz2.length dc2] 25))) := ((Below.refl _ w).alloc (Nat.le_refl _) _).alloc (by simp) _
  have p1 := (Abx.new w (.bool c1) (.slice sa1 sz1.length sc1) (.slice da1 dz1.length dc1)).al (.cells #[.bool c2, .slice sa2 sz2.length sc2, .slice da2 dz2.length dc2] 25)
  have p1_0 := p1.c0
  have p1_1 := p1.c1
  have p1_2 := p1.c2
  have p2 := Abx.new1 w (.cells #[.bool c1, .slice sa1 sz1.length sc1, .slice da1 dz1.length dc1] 25) (.bool c2) (.slice sa2 sz2.length sc2) (.slice da2 dz2.length dc2)
  have p2_0 := p2.c0
  have p2_1 := p2.c1
  have p2_2 := p2.c2
  go_enter Tryd.func3, Tryd.ntmps3
  go_wp2_with fail
  refine (reach2_no f c1 sa1 sc1 sz1 da1 dc1 dz1 c2 sa2 sc2 sz2 da2 dc2 dz2 x1 x2 y1 y2 _ ((HI.out.1.1.below hb.out).mono hb.out.size) ((HI.out.1.2.1.below hb.out).mono hb.out.size) ((HI.out.2.1.below hb.out).mono hb.out.size) ((HI.out.2.2.1.below hb.out).mono hb.out.size) ⟨HI.out.1.2.2, HI.out.2.2.2⟩ F.out).mono ?_
  rintro e v1 ⟨rfl, hB⟩
  replace hb : Hid (Below w.heap.size w v1) := hb.out.trans (hB.mono hb.out.size)
  replace hg := hg.go hB
  replace p1 := p1.go hB
  replace p2 := p2.go hB
  replace p1_0 := p1.c0
  replace p1_1 := p1.c1
  replace p1_2 := p1.c2
  replace p2_0 := p2.c0
  replace p2_1 := p2.c1
  replace p2_2 := p2.c2
  clear hB
  replace hb : Hid (Below w.heap.size w (v1.alloc (.cells #[.bool false, .slice none 0 0, .slice none 0 0] 25))) := hb.out.alloc hb.out.size _
  replace hg := hg.al (.cells #[.bool false, .slice none 0 0, .slice none 0 0] 25)
  replace p1 := p1.al (.cells #[.bool false, .slice none 0 0, .slice none 0 0] 25)
  replace p2 := p2.al (.cells #[.bool false, .slice none 0 0, .slice none 0 0] 25)
  replace p1_0 := p1.c0
  replace p1_1 := p1.c1
  replace p1_2 := p1.c2
  replace p2_0 := p2.c0
  replace p2_1 := p2.c1
  replace p2_2 := p2.c2
  have pw := Abx.new v1 (.bool false) (.slice none 0 0) (.slice none 0 0)
  have pw_0 := pw.c0
  have pw_1 := pw.c1
  have pw_2 := pw.c2
  go_wp2_with fail
  refine (c2_no H f c1 sa1 sc1 sz1 da1 dc1 dz1 c2 sa2 sc2 sz2 da2 dc2 dz2 _ hf x1 x2 y1 y2 ((HI.out.1.1.below hb.out).mono hb.out.size) ((HI.out.1.2.1.below hb.out).mono hb.out.size) ((HI.out.2.1.below hb.out).mono hb.out.size) ((HI.out.2.2.1.below hb.out).mono hb.out.size) HI.out.1.2.2 HI.out.2.2.2 F.out).mono ?_
  rintro e v2 ⟨rfl, hB⟩
  replace hb : Hid (Below w.heap.size w v2) := hb.out.trans (hB.mono hb.out.size)
  replace hg := hg.go hB
  replace p1 := p1.go hB
  replace p2 := p2.go hB
  replace pw := pw.go hB
  replace p1_0 := p1.c0
  replace p1_1 := p1.c1
  replace p1_2 := p1.c2
  replace p2_0 := p2.c0
  replace p2_1 := p2.c1
  replace p2_2 := p2.c2
  replace pw_0 := pw.c0
  replace pw_1 := pw.c1
  replace pw_2 := pw.c2
  clear hB
  replace hb : Hid (Below w.heap.size w (v2.alloc (.cells #[.bool false, .slice none 0 0, .slice none 0 0] 25))) := hb.out.alloc hb.out.size _
  replace hg := hg.al (.cells #[.bool false, .slice none 0 0, .slice none 0 0] 25)
  replace p1 := p1.al (.cells #[.bool false, .slice none 0 0, .slice none 0 0] 25)
  replace p2 := p2.al (.cells #[.bool false, .slice none 0 0, .slice none 0 0] 25)
  replace pw := pw.al (.cells #[.bool false, .slice none 0 0, .slice none 0 0] 25)
  replace p1_0 := p1.c0
  replace p1_1 := p1.c1
  replace p1_2 := p1.c2
  replace p2_0 := p2.c0
  replace p2_1 := p2.c1
  replace p2_2 := p2.c2
  replace pw_0 := pw.c0
  replace pw_1 := pw.c1
  replace pw_2 := pw.c2
  have pg := Abx.new v2 (.bool false) (.slice none 0 0) (.slice none 0 0)
  have pg_0 := pg.c0
  have pg_1 := pg.c1
  have pg_2 := pg.c2
  go_wp2_with fail
  rw [show Value.iface 26 (.int .i64 (e2E f c1 sz1 dz1 c2 sz2 dz2)) = errV (e2E f c1 sz1 dz1 c2 sz2 dz2) from (errV_pos F.out).symm]
  refine (error_same (e2E f c1 sz1 dz1 c2 sz2 dz2) _ hg).mono ?_
  rintro e v3 ⟨rfl, hB⟩
  replace hb : Hid (Below w.heap.size w v3) := hb.out.trans (hB.mono hb.out.size)
  replace hg := hg.go hB
  replace p1 := p1.go hB
  replace p2 := p2.go hB
  replace pw := pw.go hB
  replace pg := pg.go hB
  replace p1_0 := p1.c0
  replace p1_1 := p1.c1
  replace p1_2 := p1.c2
  replace p2_0 := p2.c0
  replace p2_1 := p2.c1
  replace p2_2 := p2.c2
  replace pw_0 := pw.c0
  replace pw_1 := pw.c1
  replace pw_2 := pw.c2
  replace pg_0 := pg.c0
  replace pg_1 := pg.c1
  replace pg_2 := pg.c2
  clear hB
  go_wp2_with fail
  refine (sarr_self false none 0 [] none 0 [] none 0 none 0 (by simp) (by simp) _ (no_ints _ _) (no_ints _ _) (no_ints _ _) (no_ints _ _)).mono ?_
  rintro e v4 ⟨rfl, hB⟩
  replace hb : Hid (Below w.heap.size w v4) := hb.out.trans (hB.mono hb.out.size)
  replace hg := hg.go hB
  replace p1 := p1.go hB
  replace p2 := p2.go hB
  replace pw := pw.go hB
  replace pg := pg.go hB
  replace p1_0 := p1.c0
  replace p1_1 := p1.c1
  replace p1_2 := p1.c2
  replace p2_0 := p2.c0
  replace p2_1 := p2.c1
  replace p2_2 := p2.c2
  replace pw_0 := pw.c0
  replace pw_1 := pw.c1
  replace pw_2 := pw.c2
  replace pg_0 := pg.c0
  replace pg_1 := pg.c1
  replace pg_2 := pg.c2
  clear hB
  go_wp2_with fail
  go_ret
  exact ⟨rfl, hb.out⟩
set_option maxRecDepth 100000 in
set_option maxHeartbeats 4000000 in
theorem etwos_ok (H : C2) (f : Int) (hf : In64 f) (c1 : Bool) (sa1 : Option Addr) (sc1 : Nat) (sz1 : List Int) (da1 : Option Addr) (dc1 : Nat) (dz1 : List Int) (c2 : Bool) (sa2 : Option Addr) (sc2 : Nat) (sz2 : List Int) (da2 : Option Addr) (dc2 : Nat) (dz2 : List Int) (w : World) (hg : HasErr w) (w1 : IsArr w sa1 sz1 da1 dz1) (w2 : IsArr w sa2 sz2 da2 dz2) (F : Hid (e2E f c1 sz1 dz1 c2 sz2 dz2 = 0)) :
    Calls Tryd.prog 3 #[.int .i64 f, .agg #[.bool c1, .slice sa1 sz1.length sc1, .slice da1 dz1.length dc1], .agg #[.bool c2, .slice sa2 sz2.length sc2, .slice da2 dz2.length dc2]] w fun e w' => e = .returned (.bool true) ∧ Below w.heap.size w w' := by
  obtain ⟨x1, x2, x3, x4, _, T⟩ := w1
  obtain ⟨y1, y2, y3, y4, _, T'⟩ := w2
  have HI : Hid ((IsInts w.heap.size w sa1 sz1 ∧ IsInts w.heap.size w da1 dz1 ∧ ∀ j, In64 (nth dz1 j)) ∧ (IsInts w.heap.size w sa2 sz2 ∧ IsInts w.heap.size w da2 dz2 ∧ ∀ j, In64 (nth dz2 j))) := ⟨⟨x3, x4, T⟩, y3, y4, T'⟩
  clear x3 x4 T y3 y4 T'
  replace hg := (hg.al (.cells #[.bool c1, .slice sa1 sz1.length sc1, .slice da1 dz1.length dc1] 25)).al (.cells #[.bool c2, .slice sa2 sz2.length sc2, .slice da2 dz2.length dc2] 25)
  have hb : Hid (Below w.heap.size w ((w.alloc (.cells #[.bool c1, .slice sa1 sz1.length sc1, .slice da1 dz1.length dc1] 25)).alloc (.cells #[.bool c2, .slice sa2 sz2.length sc2, .slice da2 dz2.length dc2] 25))) := ((Below.refl _ w).alloc (Nat.le_refl _) _).alloc (by simp) _
  have p1 := (Abx.new w (.bool c1) (.slice sa1 sz1.length sc1) (.slice da1 dz1.length dc1)).al (.cells #[.bool c2, .slice sa2 sz2.length sc2, .slice da2 dz2.length dc2] 25)
  have p1_0 := p1.c0
  have p1_1 := p1.c1
  have p1_2 := p1.c2
  have p2 := Abx.new1 w (.cells #[.bool c1, .slice sa1 sz1.length sc1, .slice da1 dz1.length dc1] 25) (.bool c2) (.slice sa2 sz2.length sc2) (.slice da2 dz2.length dc2)
  have p2_0 := p2.c0
  have p2_1 := p2.c1
  have p2_2 := p2.c2
  go_enter Tryd.func3, Tryd.ntmps3
  go_wp2_with fail
  refine (reach2_ok f c1 sa1 sc1 sz1 da1 dc1 dz1 c2 sa2 sc2 sz2 da2 dc2 dz2 x1 x2 y1 y2 _ ((HI.out.1.1.below hb.out).mono hb.out.size) ((HI.out.1.2.1.below hb.out).mono hb.out.size) ((HI.out.2.1.below hb.out).mono hb.out.size) ((HI.out.2.2.1.below hb.out).mono hb.out.size) ⟨HI.out.1.2.2, HI.out.2.2.2⟩ F.out).mono ?_
  rintro e v1 ⟨ta, tc, ua, uc, rfl, hT, hU, hB⟩
  replace hb : Hid (Below w.heap.size w v1) := hb.out.trans (hB.mono hb.out.size)
  replace hg := hg.go hB
  replace p1 := p1.go hB
  replace p2 := p2.go hB
  replace p1_0 := p1.c0
  replace p1_1 := p1.c1
  replace p1_2 := p1.c2
  replace p2_0 := p2.c0
  replace p2_1 := p2.c1
  replace p2_2 := p2.c2
  clear hB
  replace hb : Hid (Below w.heap.size w (v1.alloc (.cells #[.bool false, .slice ta (shp sz1 sz2).length tc, .slice ua (e2V f c1 sz1 dz1 c2 sz2 dz2).length uc] 25))) := hb.out.alloc hb.out.size _
  replace hg := hg.al (.cells #[.bool false, .slice ta (shp sz1 sz2).length tc, .slice ua (e2V f c1 sz1 dz1 c2 sz2 dz2).length uc] 25)
  replace p1 := p1.al (.cells #[.bool false, .slice ta (shp sz1 sz2).length tc, .slice ua (e2V f c1 sz1 dz1 c2 sz2 dz2).length uc] 25)
  replace p2 := p2.al (.cells #[.bool false, .slice ta (shp sz1 sz2).length tc, .slice ua (e2V f c1 sz1 dz1 c2 sz2 dz2).length uc] 25)
  replace hT := hT.al (.cells #[.bool false, .slice ta (shp sz1 sz2).length tc, .slice ua (e2V f c1 sz1 dz1 c2 sz2 dz2).length uc] 25)
  replace hU := hU.al (.cells #[.bool false, .slice ta (shp sz1 sz2).length tc, .slice ua (e2V f c1 sz1 dz1 c2 sz2 dz2).length uc] 25)
  replace p1_0 := p1.c0
  replace p1_1 := p1.c1
  replace p1_2 := p1.c2
  replace p2_0 := p2.c0
  replace p2_1 := p2.c1
  replace p2_2 := p2.c2
  have pw := Abx.new v1 (.bool false) (.slice ta (shp sz1 sz2).length tc) (.slice ua (e2V f c1 sz1 dz1 c2 sz2 dz2).length uc)
  have pw_0 := pw.c0
  have pw_1 := pw.c1
  have pw_2 := pw.c2
  go_wp2_with fail
  refine (c2_ok H f c1 sa1 sc1 sz1 da1 dc1 dz1 c2 sa2 sc2 sz2 da2 dc2 dz2 _ hf x1 x2 y1 y2 ((HI.out.1.1.below hb.out).mono hb.out.size) ((HI.out.1.2.1.below hb.out).mono hb.out.size) ((HI.out.2.1.below hb.out).mono hb.out.size) ((HI.out.2.2.1.below hb.out).mono hb.out.size) HI.out.1.2.2 HI.out.2.2.2 F.out).mono ?_
  rintro e v2 ⟨xa, xc, ya, yc, rfl, hX, hY, hB⟩
  replace hb : Hid (Below w.heap.size w v2) := hb.out.trans (hB.mono hb.out.size)
  replace hg := hg.go hB
  replace p1 := p1.go hB
  replace p2 := p2.go hB
  replace hT := hT.go hB
  replace hU := hU.go hB
  replace pw := pw.go hB
  replace p1_0 := p1.c0
  replace p1_1 := p1.c1
  replace p1_2 := p1.c2
  replace p2_0 := p2.c0
  replace p2_1 := p2.c1
  replace p2_2 := p2.c2
  replace pw_0 := pw.c0
  replace pw_1 := pw.c1
  replace pw_2 := pw.c2
  clear hB
  replace hb : Hid (Below w.heap.size w (v2.alloc (.cells #[.bool false, .slice xa (shp sz1 sz2).length xc, .slice ya (e2V f c1 sz1 dz1 c2 sz2 dz2).length yc] 25))) := hb.out.alloc hb.out.size _
  replace hg := hg.al (.cells #[.bool false, .slice xa (shp sz1 sz2).length xc, .slice ya (e2V f c1 sz1 dz1 c2 sz2 dz2).length yc] 25)
  replace p1 := p1.al (.cells #[.bool false, .slice xa (shp sz1 sz2).length xc, .slice ya (e2V f c1 sz1 dz1 c2 sz2 dz2).length yc] 25)
  replace p2 := p2.al (.cells #[.bool false, .slice xa (shp sz1 sz2).length xc, .slice ya (e2V f c1 sz1 dz1 c2 sz2 dz2).length yc] 25)
  replace hT := hT.al (.cells #[.bool false, .slice xa (shp sz1 sz2).length xc, .slice ya (e2V f c1 sz1 dz1 c2 sz2 dz2).length yc] 25)
  replace hU := hU.al (.cells #[.bool false, .slice xa (shp sz1 sz2).length xc, .slice ya (e2V f c1 sz1 dz1 c2 sz2 dz2).length yc] 25)
  replace pw := pw.al (.cells #[.bool false, .slice xa (shp sz1 sz2).length xc, .slice ya (e2V f c1 sz1 dz1 c2 sz2 dz2).length yc] 25)
  replace hX := hX.al (.cells #[.bool false, .slice xa (shp sz1 sz2).length xc, .slice ya (e2V f c1 sz1 dz1 c2 sz2 dz2).length yc] 25)
  replace hY := hY.al (.cells #[.bool false, .slice xa (shp sz1 sz2).length xc, .slice ya (e2V f c1 sz1 dz1 c2 sz2 dz2).length yc] 25)
  replace p1_0 := p1.c0
  replace p1_1 := p1.c1
  replace p1_2 := p1.c2
  replace p2_0 := p2.c0
  replace p2_1 := p2.c1
  replace p2_2 := p2.c2
  replace pw_0 := pw.c0
  replace pw_1 := pw.c1
  replace pw_2 := pw.c2
  have pg := Abx.new v2 (.bool false) (.slice xa (shp sz1 sz2).length xc) (.slice ya (e2V f c1 sz1 dz1 c2 sz2 dz2).length yc)
  have pg_0 := pg.c0
  have pg_1 := pg.c1
  have pg_2 := pg.c2
  go_wp2_with fail
  have hes : Calls Tryd.prog 6 #[.nilIface, .int .i64 0] _ _ := error_same 0 (v2.alloc (.cells #[.bool false, .slice xa (shp sz1 sz2).length xc, .slice ya (e2V f c1 sz1 dz1 c2 sz2 dz2).length yc] 25)) hg
  refine (hes).mono ?_
  rintro e v3 ⟨rfl, hB⟩
  replace hb : Hid (Below w.heap.size w v3) := hb.out.trans (hB.mono hb.out.size)
  replace hg := hg.go hB
  replace p1 := p1.go hB
  replace p2 := p2.go hB
  replace hT := hT.go hB
  replace hU := hU.go hB
  replace pw := pw.go hB
  replace hX := hX.go hB
  replace hY := hY.go hB
  replace pg := pg.go hB
  replace p1_0 := p1.c0
  replace p1_1 := p1.c1
  replace p1_2 := p1.c2
  replace p2_0 := p2.c0
  replace p2_1 := p2.c1
  replace p2_2 := p2.c2
  replace pw_0 := pw.c0
  replace pw_1 := pw.c1
  replace pw_2 := pw.c2
  replace pg_0 := pg.c0
  replace pg_1 := pg.c1
  replace pg_2 := pg.c2
  clear hB
  clear hes
  go_wp2_with fail
  refine (sarr_self false xa xc (shp sz1 sz2) ya yc (e2V f c1 sz1 dz1 c2 sz2 dz2) ta tc ua uc (by unfold shp; split <;> assumption) (by rw [e2V_length]; have := (e2E_small F.out).2; omega) _ hX.ints hY.ints hT.ints hU.ints).mono ?_
  rintro e v4 ⟨rfl, hB⟩
  replace hb : Hid (Below w.heap.size w v4) := hb.out.trans (hB.mono hb.out.size)
  replace hg := hg.go hB
  replace p1 := p1.go hB
  replace p2 := p2.go hB
  replace hT := hT.go hB
  replace hU := hU.go hB
  replace pw := pw.go hB
  replace hX := hX.go hB
  replace hY := hY.go hB
  replace pg := pg.go hB
  replace p1_0 := p1.c0
  replace p1_1 := p1.c1
  replace p1_2 := p1.c2
  replace p2_0 := p2.c0
  replace p2_1 := p2.c1
  replace p2_2 := p2.c2
  replace pw_0 := pw.c0
  replace pw_1 := pw.c1
  replace pw_2 := pw.c2
  replace pg_0 := pg.c0
  replace pg_1 := pg.c1
  replace pg_2 := pg.c2
  clear hB
  go_wp2_with fail
  go_ret
  exact ⟨rfl, hb.out⟩
theorem etwos_walk (H : C2) (f : Int) (hf : In64 f) (c1 : Bool) (sa1 : Option Addr) (sc1 : Nat) (sz1 : List Int) (da1 : Option Addr) (dc1 : Nat) (dz1 : List Int) (c2 : Bool) (sa2 : Option Addr) (sc2 : Nat) (sz2 : List Int) (da2 : Option Addr) (dc2 : Nat) (dz2 : List Int) (w : World) (hg : HasErr w) (w1 : IsArr w sa1 sz1 da1 dz1) (w2 : IsArr w sa2 sz2 da2 dz2) :
    Calls Tryd.prog 3 #[.int .i64 f, .agg #[.bool c1, .slice sa1 sz1.length sc1, .slice da1 dz1.length dc1], .agg #[.bool c2, .slice sa2 sz2.length sc2, .slice da2 dz2.length dc2]] w fun e w' => e = .returned (.bool true) ∧ Below w.heap.size w w' := by
  by_cases h : e2E f c1 sz1 dz1 c2 sz2 dz2 = 0
  · exact etwos_ok H f hf c1 sa1 sc1 sz1 da1 dc1 dz1 c2 sa2 sc2 sz2 da2 dc2 dz2 w hg w1 w2 h
  · exact etwos_no H f hf c1 sa1 sc1 sz1 da1 dc1 dz1 c2 sa2 sc2 sz2 da2 dc2 dz2 w hg w1 w2 h
end Go.Proofs.YtmbgomljofngnaaDoor
