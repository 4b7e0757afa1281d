/-
  The walk of the statement on a text's characters.
-/
import Derived.Test.YtkfdhnabhpnmcaaDoorErr
import Derived.Test.YtkfdhnabhpnmcaaDoorSarr
import Derived.Test.YtkfdhnabhpnmcaaDoorVec
import Derived.Test.YtkfdhnabhpnmcaaDoorText
import Derived.Test.YtkfdhnabhpnmcaaDoorRunes
namespace Go.Proofs.YtkfdhnabhpnmcaaDoor
open Go.RowKit Go.Lib
set_option linter.unusedVariables false

theorem sarr_self (c : Bool) (sa : Option Addr) (sc : Nat) (sz : List Int) (da : Option Addr) (dc : Nat) (dz : List Int) (sa' : Option Addr) (sc' : Nat) (da' : Option Addr) (dc' : Nat)
    (h1 : sz.length ≤ 9223372036854775807) (h2 : dz.length ≤ 9223372036854775807) (w : World) (hs : IsInts w.heap.size w sa sz) (hd : IsInts w.heap.size w da dz) (hs' : IsInts w.heap.size w sa' sz) (hd' : IsInts w.heap.size w da' dz) :
    Calls Tryd.prog 12 #[.agg #[.bool c, .slice sa sz.length sc, .slice da dz.length dc], .agg #[.bool c, .slice sa' sz.length sc', .slice da' dz.length dc']] w fun e w' => e = .returned (.bool true) ∧ Below w.heap.size w w' :=
  (sarr_any c c sa sc sz da dc dz sa' sc' sz da' dc' dz h1 h2 w hs hd hs' hd').mono fun e w' ⟨h, hB⟩ => ⟨by rw [h, arrB_self], hB⟩
theorem no_ints (w : World) (a : Option Addr) : IsInts w.heap.size w a [] := .inl rfl
theorem lit_ab : txtE ⟨#[97, 98]⟩ = 0 ∧ runesL (tl ⟨#[97, 98]⟩ 0) = [97, 98] := ⟨by kernel_rfl, by kernel_rfl⟩
theorem runes_no (s : ByteArray) (hs : s.size ≤ 1048576) (w : World) (h : validD (tl s 0) = false) :
    Calls Tryd.prog 20 #[.string s] w fun e w' => ∃ g gc, e = .returned (.tuple #[.slice g 0 gc, .bool false]) ∧ Below w.heap.size w w' :=
  (runes_any s hs w).mono fun e w' ⟨g, gc, he, _, hB⟩ => ⟨g, gc, by rw [he, h, runesV_no h]; rfl, hB⟩
theorem runes_ok (s : ByteArray) (hs : s.size ≤ 1048576) (w : World) (h : validD (tl s 0) = true) :
    Calls Tryd.prog 20 #[.string s] w fun e w' => ∃ g gc, e = .returned (.tuple #[.slice g (runesL (tl s 0)).length gc, .bool true]) ∧ NewInts w.heap.size w' g (runesL (tl s 0)) ∧ Below w.heap.size w w' :=
  (runes_any s hs w).mono fun e w' ⟨g, gc, he, hN, hB⟩ => ⟨g, gc, by rw [he, h, runesV_ok h], by rw [runesV_ok h] at hN; exact hN, hB⟩
set_option maxRecDepth 100000 in
set_option maxHeartbeats 4000000 in
theorem texts_no (s : ByteArray) (hs : s.size ≤ 1048576) (w : World) (hg : HasErr w) (hT : Tabs w) (V : Hid (validD (tl s 0) = false)) (E : Hid (txtE s = 6)) :
    Calls Tryd.prog 6 #[.string s] w fun e w' => e = .returned (.bool true) ∧ Below w.heap.size w w' := by
  have hb : Hid (Below w.heap.size w w) := Below.refl _ w
  go_enter Tryd.func6, Tryd.ntmps6
  go_wp2_with fail
  refine (text_ok ⟨#[97, 98]⟩ w (by decide) hT lit_ab.1).mono ?_
  rintro e v1 ⟨fa, fc, ga, gc, he, _, _, hB⟩
  replace hb : Hid (Below w.heap.size w v1) := hb.out.trans (hB.mono hb.out.size)
  replace hg := hg.go hB
  replace hT := hT.go hB
  clear hB
  rw [lit_ab.2] at he
  subst he
  replace hb : Hid (Below w.heap.size w (v1.alloc (.cells #[.bool true, .slice fa 1 fc, .slice ga 2 gc] 24))) := hb.out.alloc hb.out.size _
  replace hg := hg.al (.cells #[.bool true, .slice fa 1 fc, .slice ga 2 gc] 24)
  replace hT := hT.al (.cells #[.bool true, .slice fa 1 fc, .slice ga 2 gc] 24)
  go_wp2_with fail
  refine (runes_no s hs _ V.out).mono ?_
  rintro e v2 ⟨ra, rc, rfl, hB⟩
  replace hb : Hid (Below w.heap.size w v2) := hb.out.trans (hB.mono hb.out.size)
  replace hg := hg.go hB
  replace hT := hT.go hB
  clear hB
  replace hb : Hid (Below w.heap.size w (v2.alloc (.cells #[.bool false, .slice none 0 0, .slice none 0 0] 24))) := hb.out.alloc hb.out.size _
  replace hg := hg.al (.cells #[.bool false, .slice none 0 0, .slice none 0 0] 24)
  replace hT := hT.al (.cells #[.bool false, .slice none 0 0, .slice none 0 0] 24)
  have pz := Abx.new v2 (.bool false) (.slice none 0 0) (.slice none 0 0)
  have pz_0 := pz.c0
  have pz_1 := pz.c1
  have pz_2 := pz.c2
  go_wp2_with fail
  refine (text_no s _ (by omega) hT (by rw [E.out]; decide)).mono ?_
  rintro e v3 ⟨rfl, hB⟩
  replace hb : Hid (Below w.heap.size w v3) := hb.out.trans (hB.mono hb.out.size)
  replace hg := hg.go hB
  replace hT := hT.go hB
  replace pz := pz.go hB
  replace pz_0 := pz.c0
  replace pz_1 := pz.c1
  replace pz_2 := pz.c2
  clear hB
  rw [E.out]
  replace hb : Hid (Below w.heap.size w (v3.alloc (.cells #[.bool false, .slice none 0 0, .slice none 0 0] 24))) := hb.out.alloc hb.out.size _
  replace hg := hg.al (.cells #[.bool false, .slice none 0 0, .slice none 0 0] 24)
  replace hT := hT.al (.cells #[.bool false, .slice none 0 0, .slice none 0 0] 24)
  replace pz := pz.al (.cells #[.bool false, .slice none 0 0, .slice none 0 0] 24)
  replace pz_0 := pz.c0
  replace pz_1 := pz.c1
  replace pz_2 := pz.c2
  have pg := Abx.new v3 (.bool false) (.slice none 0 0) (.slice none 0 0)
  have pg_0 := pg.c0
  have pg_1 := pg.c1
  have pg_2 := pg.c2
  go_wp2_with fail
  have hes : Calls Tryd.prog 8 #[.iface 25 (.int .i64 6), .int .i64 6] _ _ := error_same 6 (v3.alloc (.cells #[.bool false, .slice none 0 0, .slice none 0 0] 24)) hg
  refine (hes).mono ?_
  rintro e v4 ⟨rfl, hB⟩
  replace hb : Hid (Below w.heap.size w v4) := hb.out.trans (hB.mono hb.out.size)
  replace hg := hg.go hB
  replace hT := hT.go hB
  replace pz := pz.go hB
  replace pg := pg.go hB
  replace pz_0 := pz.c0
  replace pz_1 := pz.c1
  replace pz_2 := pz.c2
  replace pg_0 := pg.c0
  replace pg_1 := pg.c1
  replace pg_2 := pg.c2
  clear hB
  clear hes
  go_wp2_with fail
  refine (sarr_self false none 0 [] none 0 [] none 0 none 0 (by simp) (by simp) _ (no_ints _ _) (no_ints _ _) (no_ints _ _) (no_ints _ _)).mono ?_
  rintro e v5 ⟨rfl, hB⟩
  replace hb : Hid (Below w.heap.size w v5) := hb.out.trans (hB.mono hb.out.size)
  replace hg := hg.go hB
  replace hT := hT.go hB
  replace pz := pz.go hB
  replace pg := pg.go hB
  replace pz_0 := pz.c0
  replace pz_1 := pz.c1
  replace pz_2 := pz.c2
  replace pg_0 := pg.c0
  replace pg_1 := pg.c1
  replace pg_2 := pg.c2
  clear hB
  go_wp2_with fail
  go_ret
  exact ⟨rfl, hb.out⟩
set_option maxRecDepth 100000 in
set_option maxHeartbeats 4000000 in
theorem texts_full (s : ByteArray) (hs : s.size ≤ 1048576) (w : World) (hg : HasErr w) (hT : Tabs w) (V : Hid (validD (tl s 0) = true)) (hl : (4096 : Int) < ((runesL (tl s 0)).length : Int)) (E : Hid (txtE s = 7)) :
    Calls Tryd.prog 6 #[.string s] w fun e w' => e = .returned (.bool true) ∧ Below w.heap.size w w' := by
  have hb : Hid (Below w.heap.size w w) := Below.refl _ w
  go_enter Tryd.func6, Tryd.ntmps6
  go_wp2_with fail
  refine (text_ok ⟨#[97, 98]⟩ w (by decide) hT lit_ab.1).mono ?_
  rintro e v1 ⟨fa, fc, ga, gc, he, _, _, hB⟩
  replace hb : Hid (Below w.heap.size w v1) := hb.out.trans (hB.mono hb.out.size)
  replace hg := hg.go hB
  replace hT := hT.go hB
  clear hB
  rw [lit_ab.2] at he
  subst he
  replace hb : Hid (Below w.heap.size w (v1.alloc (.cells #[.bool true, .slice fa 1 fc, .slice ga 2 gc] 24))) := hb.out.alloc hb.out.size _
  replace hg := hg.al (.cells #[.bool true, .slice fa 1 fc, .slice ga 2 gc] 24)
  replace hT := hT.al (.cells #[.bool true, .slice fa 1 fc, .slice ga 2 gc] 24)
  go_wp2_with fail
  refine (runes_ok s hs _ V.out).mono ?_
  rintro e v2 ⟨ra, rc, rfl, _, hB⟩
  replace hb : Hid (Below w.heap.size w v2) := hb.out.trans (hB.mono hb.out.size)
  replace hg := hg.go hB
  replace hT := hT.go hB
  clear hB
  replace hb : Hid (Below w.heap.size w (v2.alloc (.cells #[.bool false, .slice none 0 0, .slice none 0 0] 24))) := hb.out.alloc hb.out.size _
  replace hg := hg.al (.cells #[.bool false, .slice none 0 0, .slice none 0 0] 24)
  replace hT := hT.al (.cells #[.bool false, .slice none 0 0, .slice none 0 0] 24)
  have pz := Abx.new v2 (.bool false) (.slice none 0 0) (.slice none 0 0)
  have pz_0 := pz.c0
  have pz_1 := pz.c1
  have pz_2 := pz.c2
  go_wp2_with fail
  refine (text_no s _ (by omega) hT (by rw [E.out]; decide)).mono ?_
  rintro e v3 ⟨rfl, hB⟩
  replace hb : Hid (Below w.heap.size w v3) := hb.out.trans (hB.mono hb.out.size)
  replace hg := hg.go hB
  replace hT := hT.go hB
  replace pz := pz.go hB
  replace pz_0 := pz.c0
  replace pz_1 := pz.c1
  replace pz_2 := pz.c2
  clear hB
  rw [E.out]
  replace hb : Hid (Below w.heap.size w (v3.alloc (.cells #[.bool false, .slice none 0 0, .slice none 0 0] 24))) := hb.out.alloc hb.out.size _
  replace hg := hg.al (.cells #[.bool false, .slice none 0 0, .slice none 0 0] 24)
  replace hT := hT.al (.cells #[.bool false, .slice none 0 0, .slice none 0 0] 24)
  replace pz := pz.al (.cells #[.bool false, .slice none 0 0, .slice none 0 0] 24)
  replace pz_0 := pz.c0
  replace pz_1 := pz.c1
  replace pz_2 := pz.c2
  have pg := Abx.new v3 (.bool false) (.slice none 0 0) (.slice none 0 0)
  have pg_0 := pg.c0
  have pg_1 := pg.c1
  have pg_2 := pg.c2
  go_wp2_with fail
  have hes : Calls Tryd.prog 8 #[.iface 25 (.int .i64 7), .int .i64 7] _ _ := error_same 7 (v3.alloc (.cells #[.bool false, .slice none 0 0, .slice none 0 0] 24)) hg
  refine (hes).mono ?_
  rintro e v4 ⟨rfl, hB⟩
  replace hb : Hid (Below w.heap.size w v4) := hb.out.trans (hB.mono hb.out.size)
  replace hg := hg.go hB
  replace hT := hT.go hB
  replace pz := pz.go hB
  replace pg := pg.go hB
  replace pz_0 := pz.c0
  replace pz_1 := pz.c1
  replace pz_2 := pz.c2
  replace pg_0 := pg.c0
  replace pg_1 := pg.c1
  replace pg_2 := pg.c2
  clear hB
  clear hes
  go_wp2_with fail
  refine (sarr_self false none 0 [] none 0 [] none 0 none 0 (by simp) (by simp) _ (no_ints _ _) (no_ints _ _) (no_ints _ _) (no_ints _ _)).mono ?_
  rintro e v5 ⟨rfl, hB⟩
  replace hb : Hid (Below w.heap.size w v5) := hb.out.trans (hB.mono hb.out.size)
  replace hg := hg.go hB
  replace hT := hT.go hB
  replace pz := pz.go hB
  replace pg := pg.go hB
  replace pz_0 := pz.c0
  replace pz_1 := pz.c1
  replace pz_2 := pz.c2
  replace pg_0 := pg.c0
  replace pg_1 := pg.c1
  replace pg_2 := pg.c2
  clear hB
  go_wp2_with fail
  go_ret
  exact ⟨rfl, hb.out⟩
set_option maxRecDepth 100000 in
set_option maxHeartbeats 4000000 in
theorem texts_ok (s : ByteArray) (hs : s.size ≤ 1048576) (w : World) (hg : HasErr w) (hT : Tabs w) (V : Hid (validD (tl s 0) = true)) (hl : ((runesL (tl s 0)).length : Int) ≤ 4096) (E : Hid (txtE s = 0)) :
    Calls Tryd.prog 6 #[.string s] w fun e w' => e = .returned (.bool true) ∧ Below w.heap.size w w' := by
  have hb : Hid (Below w.heap.size w w) := Below.refl _ w
  go_enter Tryd.func6, Tryd.ntmps6
  go_wp2_with fail
  refine (text_ok ⟨#[97, 98]⟩ w (by decide) hT lit_ab.1).mono ?_
  rintro e v1 ⟨fa, fc, ga, gc, he, _, _, hB⟩
  replace hb : Hid (Below w.heap.size w v1) := hb.out.trans (hB.mono hb.out.size)
  replace hg := hg.go hB
  replace hT := hT.go hB
  clear hB
  rw [lit_ab.2] at he
  subst he
  replace hb : Hid (Below w.heap.size w (v1.alloc (.cells #[.bool true, .slice fa 1 fc, .slice ga 2 gc] 24))) := hb.out.alloc hb.out.size _
  replace hg := hg.al (.cells #[.bool true, .slice fa 1 fc, .slice ga 2 gc] 24)
  replace hT := hT.al (.cells #[.bool true, .slice fa 1 fc, .slice ga 2 gc] 24)
  go_wp2_with fail
  refine (runes_ok s hs _ V.out).mono ?_
  rintro e v2 ⟨ra, rc, rfl, hR, hB⟩
  replace hb : Hid (Below w.heap.size w v2) := hb.out.trans (hB.mono hb.out.size)
  replace hg := hg.go hB
  replace hT := hT.go hB
  clear hB
  have l_hg := hg.pos
  have l_hT := hT.pos
  have l_s := hb.out.size
  replace hb : Hid (Below w.heap.size w (v2.alloc (.cells #[.bool false, .slice none 0 0, .slice none 0 0] 24))) := hb.out.alloc hb.out.size _
  replace hg := hg.al (.cells #[.bool false, .slice none 0 0, .slice none 0 0] 24)
  replace hT := hT.al (.cells #[.bool false, .slice none 0 0, .slice none 0 0] 24)
  replace hR := hR.al (.cells #[.bool false, .slice none 0 0, .slice none 0 0] 24)
  have pz := Abx.new v2 (.bool false) (.slice none 0 0) (.slice none 0 0)
  have pz_0 := pz.c0
  have pz_1 := pz.c1
  have pz_2 := pz.c2
  go_wp2_with fail
  refine (vector_any true ra rc (runesL (tl s 0)) (by omega) _ hR.ints).mono ?_
  rintro e v3 ⟨ta, tc, ua, uc, rfl, hX2, hU, hB⟩
  replace hb : Hid (Below w.heap.size w v3) := hb.out.trans (hB.mono hb.out.size)
  replace hg := hg.go hB
  replace hT := hT.go hB
  replace hR := hR.go hB
  replace pz := pz.go hB
  replace pz_0 := pz.c0
  replace pz_1 := pz.c1
  replace pz_2 := pz.c2
  clear hB
  clear hR
  have fz_0 := pz.fr 0
  have fz_1 := pz.fr 1
  have fz_2 := pz.fr 2
  have N_hg := hg.set3 l_hg (.bool true) (.slice ta 1 tc) (.slice ua (runesL (tl s 0)).length uc)
  have N_hT := hT.set3 l_hT (.bool true) (.slice ta 1 tc) (.slice ua (runesL (tl s 0)).length uc)
  have N_pz := pz.set3 (.bool true) (.slice ta 1 tc) (.slice ua (runesL (tl s 0)).length uc)
  have N_hX2 := hX2.set3 (b := v2.heap.size) (by simp) (.bool true) (.slice ta 1 tc) (.slice ua (runesL (tl s 0)).length uc)
  have N_hU := hU.set3 (b := v2.heap.size) (by simp) (.bool true) (.slice ta 1 tc) (.slice ua (runesL (tl s 0)).length uc)
  have N_hb : Hid (Below w.heap.size w (((v3.setCell ⟨v2.heap.size, 0, none⟩ (.bool true)).setCell ⟨v2.heap.size, 1, none⟩ (.slice ta 1 tc)).setCell ⟨v2.heap.size, 2, none⟩ (.slice ua (runesL (tl s 0)).length uc))) := bel_set3 hb.out l_s (.bool true) (.slice ta 1 tc) (.slice ua (runesL (tl s 0)).length uc)
  have N_pz_0 := N_pz.c0
  have N_pz_1 := N_pz.c1
  have N_pz_2 := N_pz.c2
  go_wp2_with fail
  clear fz_0 fz_1 fz_2 hb l_s l_hg l_hT hg hT pz hX2 hU pz_0 pz_1 pz_2
  have hb := N_hb
  have hg := N_hg
  have hT := N_hT
  have pz := N_pz
  have hX2 := N_hX2
  have hU := N_hU
  have pz_0 := N_pz_0
  have pz_1 := N_pz_1
  have pz_2 := N_pz_2
  clear N_hb N_hg N_hT N_pz N_hX2 N_hU N_pz_0 N_pz_1 N_pz_2
  refine (text_ok s _ (by omega) hT E.out).mono ?_
  rintro e v4 ⟨xa, xc, ya, yc, rfl, hX, hY, hB⟩
  replace hb : Hid (Below w.heap.size w v4) := hb.out.trans (hB.mono hb.out.size)
  replace hg := hg.go hB
  replace hT := hT.go hB
  replace pz := pz.go hB
  replace hX2 := hX2.go hB
  replace hU := hU.go hB
  replace pz_0 := pz.c0
  replace pz_1 := pz.c1
  replace pz_2 := pz.c2
  clear hB
  replace hb : Hid (Below w.heap.size w (v4.alloc (.cells #[.bool true, .slice xa 1 xc, .slice ya (runesL (tl s 0)).length yc] 24))) := hb.out.alloc hb.out.size _
  replace hg := hg.al (.cells #[.bool true, .slice xa 1 xc, .slice ya (runesL (tl s 0)).length yc] 24)
  replace hT := hT.al (.cells #[.bool true, .slice xa 1 xc, .slice ya (runesL (tl s 0)).length yc] 24)
  replace pz := pz.al (.cells #[.bool true, .slice xa 1 xc, .slice ya (runesL (tl s 0)).length yc] 24)
  replace hX2 := hX2.al (.cells #[.bool true, .slice xa 1 xc, .slice ya (runesL (tl s 0)).length yc] 24)
  replace hU := hU.al (.cells #[.bool true, .slice xa 1 xc, .slice ya (runesL (tl s 0)).length yc] 24)
  replace hX := hX.al (.cells #[.bool true, .slice xa 1 xc, .slice ya (runesL (tl s 0)).length yc] 24)
  replace hY := hY.al (.cells #[.bool true, .slice xa 1 xc, .slice ya (runesL (tl s 0)).length yc] 24)
  replace pz_0 := pz.c0
  replace pz_1 := pz.c1
  replace pz_2 := pz.c2
  have pg := Abx.new v4 (.bool true) (.slice xa 1 xc) (.slice ya (runesL (tl s 0)).length yc)
  have pg_0 := pg.c0
  have pg_1 := pg.c1
  have pg_2 := pg.c2
  go_wp2_with fail
  have hes : Calls Tryd.prog 8 #[.nilIface, .int .i64 0] _ _ := error_same 0 (v4.alloc (.cells #[.bool true, .slice xa 1 xc, .slice ya (runesL (tl s 0)).length yc] 24)) hg
  refine (hes).mono ?_
  rintro e v5 ⟨rfl, hB⟩
  replace hb : Hid (Below w.heap.size w v5) := hb.out.trans (hB.mono hb.out.size)
  replace hg := hg.go hB
  replace hT := hT.go hB
  replace pz := pz.go hB
  replace hX2 := hX2.go hB
  replace hU := hU.go hB
  replace hX := hX.go hB
  replace hY := hY.go hB
  replace pg := pg.go hB
  replace pz_0 := pz.c0
  replace pz_1 := pz.c1
  replace pz_2 := pz.c2
  replace pg_0 := pg.c0
  replace pg_1 := pg.c1
  replace pg_2 := pg.c2
  clear hB
  clear hes
  go_wp2_with fail
  refine (sarr_self true xa xc [((runesL (tl s 0)).length : Int)] ya yc (runesL (tl s 0)) ta tc ua uc (by simp) (by omega) _ hX.ints hY.ints hX2.ints hU.ints).mono ?_
  rintro e v6 ⟨rfl, hB⟩
  replace hb : Hid (Below w.heap.size w v6) := hb.out.trans (hB.mono hb.out.size)
  replace hg := hg.go hB
  replace hT := hT.go hB
  replace pz := pz.go hB
  replace hX2 := hX2.go hB
  replace hU := hU.go hB
  replace hX := hX.go hB
  replace hY := hY.go hB
  replace pg := pg.go hB
  replace pz_0 := pz.c0
  replace pz_1 := pz.c1
  replace pz_2 := pz.c2
  replace pg_0 := pg.c0
  replace pg_1 := pg.c1
  replace pg_2 := pg.c2
  clear hB
  go_wp2_with fail
  go_ret
  exact ⟨rfl, hb.out⟩
theorem texts_walk (s : ByteArray) (hs : s.size ≤ 1048576) (w : World) (hg : HasErr w) (hT : Tabs w) :
    Calls Tryd.prog 6 #[.string s] w fun e w' => e = .returned (.bool true) ∧ Below w.heap.size w w' := by
  cases v : validD (tl s 0)
  · exact texts_no s hs w hg hT v (by show _ = _; unfold txtE; rw [if_pos v])
  · by_cases hl : 4096 < (runesL (tl s 0)).length
    · exact texts_full s hs w hg hT v (by omega) (by show _ = _; unfold txtE; rw [v, if_neg (by decide), if_pos hl])
    · exact texts_ok s hs w hg hT v (by omega) (txtE_zero.2 ⟨v, by omega⟩)
end Go.Proofs.YtkfdhnabhpnmcaaDoor
