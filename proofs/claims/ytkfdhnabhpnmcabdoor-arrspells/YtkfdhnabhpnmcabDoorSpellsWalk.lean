/-
  The walk of the statement on one text behind another one.
-/
import Derived.Test.YtkfdhnabhpnmcabDoorTill
import Derived.Test.YtkfdhnabhpnmcabDoorInts
import Derived.Test.YtkfdhnabhpnmcabDoorText
import Derived.Test.YtkfdhnabhpnmcabDoorJoinn
import Derived.Test.YtkfdhnabhpnmcabDoorUtfj
namespace Go.Proofs.YtkfdhnabhpnmcabDoor
open Go.RowKit Go.Lib
set_option linter.unusedVariables false

theorem lit_spell : txtE ⟨#[97, 207, 137]⟩ = 0 ∧ runesL (tl ⟨#[97, 207, 137]⟩ 0) = [97, 969] := ⟨by kernel_rfl, by kernel_rfl⟩
theorem txt_join {s t : ByteArray} (hs : txtE s = 0) (ht : txtE t = 0) (hl : (runesL (tl s 0)).length + (runesL (tl t 0)).length ≤ 4096) : txtE (s ++ t) = 0 ∧ runesL (tl (s ++ t) 0) = runesL (tl s 0) ++ runesL (tl t 0) := by
  obtain ⟨a, b⟩ := join_runes (txtE_zero.1 hs).1 (txtE_zero.1 ht).1
  exact ⟨txtE_zero.2 ⟨b, by rw [a, List.length_append]; exact hl⟩, a⟩
set_option maxRecDepth 100000 in
set_option maxHeartbeats 4000000 in
theorem spells_nn (s t : ByteArray) (hs : s.size ≤ 9223372036854775807) (ht : t.size ≤ 9223372036854775807) (w : World) (hT : Tabs w) (E1 : Hid (txtE s ≠ 0)) (E2 : Hid (txtE t ≠ 0)) :
    Calls Tryd.prog 3 #[.string s, .string t] w fun e w' => e = .returned (.bool true) ∧ Below w.heap.size w w' := by
  have hb : Hid (Below w.heap.size w w) := Below.refl _ w
  go_enter Tryd.func3, Tryd.ntmps3
  go_wp2_with fail
  refine (text_ok ⟨#[97, 207, 137]⟩ w (by decide) hT lit_spell.1).mono ?_
  rintro e v1 ⟨fa, fc, ga, gc, he, _, hG, hB⟩
  replace hb : Hid (Below w.heap.size w v1) := hb.out.trans (hB.mono hb.out.size)
  replace hT := hT.go hB
  clear hB
  rw [lit_spell.2] at he hG
  subst he
  obtain ⟨b, off, rfl, _, hcell⟩ := hG.ints.at (q := 1) (by simp)
  have hc := hcell 1 (by simp)
  have hn : nth [97, 969] 1 = 969 := rfl
  rw [hn] at hc
  clear hcell hn
  have hlb := World.block_lt_of_cell? _ _ hc
  replace hb : Hid (Below w.heap.size w (v1.alloc (.cells #[.bool true, .slice fa 1 fc, .slice (some ⟨b, off, none⟩) 2 gc] 24))) := hb.out.alloc hb.out.size _
  replace hT := hT.al (.cells #[.bool true, .slice fa 1 fc, .slice (some ⟨b, off, none⟩) 2 gc] 24)
  replace hc : (v1.alloc (.cells #[.bool true, .slice fa 1 fc, .slice (some ⟨b, off, none⟩) 2 gc] 24)).cell? ⟨b, off + 1, none⟩ = some (.int .i64 969) := (World.cell?_alloc_lt _ _ ⟨b, off + 1, none⟩ hlb).trans hc
  clear hG
  go_wp2_with fail
  clear hc hlb
  refine (text_no s _ (by omega) hT E1.out).mono ?_
  rintro e v2 ⟨rfl, hB⟩
  replace hb : Hid (Below w.heap.size w v2) := hb.out.trans (hB.mono hb.out.size)
  replace hT := hT.go hB
  clear hB
  replace hb : Hid (Below w.heap.size w (v2.alloc (.cells #[.bool false, .slice none 0 0, .slice none 0 0] 24))) := hb.out.alloc hb.out.size _
  replace hT := hT.al (.cells #[.bool false, .slice none 0 0, .slice none 0 0] 24)
  have px := Abx.new v2 (.bool false) (.slice none 0 0) (.slice none 0 0)
  have px_0 := px.c0
  have px_1 := px.c1
  have px_2 := px.c2
  go_wp2_with fail
  refine (text_no t _ (by omega) hT E2.out).mono ?_
  rintro e v3 ⟨rfl, hB⟩
  replace hb : Hid (Below w.heap.size w v3) := hb.out.trans (hB.mono hb.out.size)
  replace hT := hT.go hB
  replace px := px.go hB
  replace px_0 := px.c0
  replace px_1 := px.c1
  replace px_2 := px.c2
  clear hB
  replace hb : Hid (Below w.heap.size w (v3.alloc (.cells #[.bool false, .slice none 0 0, .slice none 0 0] 24))) := hb.out.alloc hb.out.size _
  replace hT := hT.al (.cells #[.bool false, .slice none 0 0, .slice none 0 0] 24)
  replace px := px.al (.cells #[.bool false, .slice none 0 0, .slice none 0 0] 24)
  replace px_0 := px.c0
  replace px_1 := px.c1
  replace px_2 := px.c2
  have py := Abx.new v3 (.bool false) (.slice none 0 0) (.slice none 0 0)
  have py_0 := py.c0
  have py_1 := py.c1
  have py_2 := py.c2
  go_wp2_with fail
  go_ret
  exact ⟨rfl, hb.out⟩
set_option maxRecDepth 100000 in
set_option maxHeartbeats 4000000 in
theorem spells_ny (s t : ByteArray) (hs : s.size ≤ 9223372036854775807) (ht : t.size ≤ 9223372036854775807) (w : World) (hT : Tabs w) (E1 : Hid (txtE s ≠ 0)) (E2 : Hid (txtE t = 0)) :
    Calls Tryd.prog 3 #[.string s, .string t] w fun e w' => e = .returned (.bool true) ∧ Below w.heap.size w w' := by
  have hb : Hid (Below w.heap.size w w) := Below.refl _ w
  go_enter Tryd.func3, Tryd.ntmps3
  go_wp2_with fail
  refine (text_ok ⟨#[97, 207, 137]⟩ w (by decide) hT lit_spell.1).mono ?_
  rintro e v1 ⟨fa, fc, ga, gc, he, _, hG, hB⟩
  replace hb : Hid (Below w.heap.size w v1) := hb.out.trans (hB.mono hb.out.size)
  replace hT := hT.go hB
  clear hB
  rw [lit_spell.2] at he hG
  subst he
  obtain ⟨b, off, rfl, _, hcell⟩ := hG.ints.at (q := 1) (by simp)
  have hc := hcell 1 (by simp)
  have hn : nth [97, 969] 1 = 969 := rfl
  rw [hn] at hc
  clear hcell hn
  have hlb := World.block_lt_of_cell? _ _ hc
  replace hb : Hid (Below w.heap.size w (v1.alloc (.cells #[.bool true, .slice fa 1 fc, .slice (some ⟨b, off, none⟩) 2 gc] 24))) := hb.out.alloc hb.out.size _
  replace hT := hT.al (.cells #[.bool true, .slice fa 1 fc, .slice (some ⟨b, off, none⟩) 2 gc] 24)
  replace hc : (v1.alloc (.cells #[.bool true, .slice fa 1 fc, .slice (some ⟨b, off, none⟩) 2 gc] 24)).cell? ⟨b, off + 1, none⟩ = some (.int .i64 969) := (World.cell?_alloc_lt _ _ ⟨b, off + 1, none⟩ hlb).trans hc
  clear hG
  go_wp2_with fail
  clear hc hlb
  refine (text_no s _ (by omega) hT E1.out).mono ?_
  rintro e v2 ⟨rfl, hB⟩
  replace hb : Hid (Below w.heap.size w v2) := hb.out.trans (hB.mono hb.out.size)
  replace hT := hT.go hB
  clear hB
  replace hb : Hid (Below w.heap.size w (v2.alloc (.cells #[.bool false, .slice none 0 0, .slice none 0 0] 24))) := hb.out.alloc hb.out.size _
  replace hT := hT.al (.cells #[.bool false, .slice none 0 0, .slice none 0 0] 24)
  have px := Abx.new v2 (.bool false) (.slice none 0 0) (.slice none 0 0)
  have px_0 := px.c0
  have px_1 := px.c1
  have px_2 := px.c2
  go_wp2_with fail
  refine (text_ok t _ (by omega) hT E2.out).mono ?_
  rintro e v3 ⟨xa2, xc2, ya2, yc2, rfl, hX2, hY2, hB⟩
  replace hb : Hid (Below w.heap.size w v3) := hb.out.trans (hB.mono hb.out.size)
  replace hT := hT.go hB
  replace px := px.go hB
  replace px_0 := px.c0
  replace px_1 := px.c1
  replace px_2 := px.c2
  clear hB
  replace hb : Hid (Below w.heap.size w (v3.alloc (.cells #[.bool true, .slice xa2 1 xc2, .slice ya2 (runesL (tl t 0)).length yc2] 24))) := hb.out.alloc hb.out.size _
  replace hT := hT.al (.cells #[.bool true, .slice xa2 1 xc2, .slice ya2 (runesL (tl t 0)).length yc2] 24)
  replace px := px.al (.cells #[.bool true, .slice xa2 1 xc2, .slice ya2 (runesL (tl t 0)).length yc2] 24)
  replace hY2 := hY2.al (.cells #[.bool true, .slice xa2 1 xc2, .slice ya2 (runesL (tl t 0)).length yc2] 24)
  replace px_0 := px.c0
  replace px_1 := px.c1
  replace px_2 := px.c2
  have py := Abx.new v3 (.bool true) (.slice xa2 1 xc2) (.slice ya2 (runesL (tl t 0)).length yc2)
  have py_0 := py.c0
  have py_1 := py.c1
  have py_2 := py.c2
  go_wp2_with fail
  go_ret
  exact ⟨rfl, hb.out⟩
set_option maxRecDepth 100000 in
set_option maxHeartbeats 4000000 in
theorem spells_yn (s t : ByteArray) (hs : s.size ≤ 9223372036854775807) (ht : t.size ≤ 9223372036854775807) (w : World) (hT : Tabs w) (E1 : Hid (txtE s = 0)) (E2 : Hid (txtE t ≠ 0)) :
    Calls Tryd.prog 3 #[.string s, .string t] w fun e w' => e = .returned (.bool true) ∧ Below w.heap.size w w' := by
  have hb : Hid (Below w.heap.size w w) := Below.refl _ w
  go_enter Tryd.func3, Tryd.ntmps3
  go_wp2_with fail
  refine (text_ok ⟨#[97, 207, 137]⟩ w (by decide) hT lit_spell.1).mono ?_
  rintro e v1 ⟨fa, fc, ga, gc, he, _, hG, hB⟩
  replace hb : Hid (Below w.heap.size w v1) := hb.out.trans (hB.mono hb.out.size)
  replace hT := hT.go hB
  clear hB
  rw [lit_spell.2] at he hG
  subst he
  obtain ⟨b, off, rfl, _, hcell⟩ := hG.ints.at (q := 1) (by simp)
  have hc := hcell 1 (by simp)
  have hn : nth [97, 969] 1 = 969 := rfl
  rw [hn] at hc
  clear hcell hn
  have hlb := World.block_lt_of_cell? _ _ hc
  replace hb : Hid (Below w.heap.size w (v1.alloc (.cells #[.bool true, .slice fa 1 fc, .slice (some ⟨b, off, none⟩) 2 gc] 24))) := hb.out.alloc hb.out.size _
  replace hT := hT.al (.cells #[.bool true, .slice fa 1 fc, .slice (some ⟨b, off, none⟩) 2 gc] 24)
  replace hc : (v1.alloc (.cells #[.bool true, .slice fa 1 fc, .slice (some ⟨b, off, none⟩) 2 gc] 24)).cell? ⟨b, off + 1, none⟩ = some (.int .i64 969) := (World.cell?_alloc_lt _ _ ⟨b, off + 1, none⟩ hlb).trans hc
  clear hG
  go_wp2_with fail
  clear hc hlb
  refine (text_ok s _ (by omega) hT E1.out).mono ?_
  rintro e v2 ⟨xa1, xc1, ya1, yc1, rfl, hX1, hY1, hB⟩
  replace hb : Hid (Below w.heap.size w v2) := hb.out.trans (hB.mono hb.out.size)
  replace hT := hT.go hB
  clear hB
  replace hb : Hid (Below w.heap.size w (v2.alloc (.cells #[.bool true, .slice xa1 1 xc1, .slice ya1 (runesL (tl s 0)).length yc1] 24))) := hb.out.alloc hb.out.size _
  replace hT := hT.al (.cells #[.bool true, .slice xa1 1 xc1, .slice ya1 (runesL (tl s 0)).length yc1] 24)
  replace hY1 := hY1.al (.cells #[.bool true, .slice xa1 1 xc1, .slice ya1 (runesL (tl s 0)).length yc1] 24)
  have px := Abx.new v2 (.bool true) (.slice xa1 1 xc1) (.slice ya1 (runesL (tl s 0)).length yc1)
  have px_0 := px.c0
  have px_1 := px.c1
  have px_2 := px.c2
  go_wp2_with fail
  refine (text_no t _ (by omega) hT E2.out).mono ?_
  rintro e v3 ⟨rfl, hB⟩
  replace hb : Hid (Below w.heap.size w v3) := hb.out.trans (hB.mono hb.out.size)
  replace hT := hT.go hB
  replace hY1 := hY1.go hB
  replace px := px.go hB
  replace px_0 := px.c0
  replace px_1 := px.c1
  replace px_2 := px.c2
  clear hB
  replace hb : Hid (Below w.heap.size w (v3.alloc (.cells #[.bool false, .slice none 0 0, .slice none 0 0] 24))) := hb.out.alloc hb.out.size _
  replace hT := hT.al (.cells #[.bool false, .slice none 0 0, .slice none 0 0] 24)
  replace hY1 := hY1.al (.cells #[.bool false, .slice none 0 0, .slice none 0 0] 24)
  replace px := px.al (.cells #[.bool false, .slice none 0 0, .slice none 0 0] 24)
  replace px_0 := px.c0
  replace px_1 := px.c1
  replace px_2 := px.c2
  have py := Abx.new v3 (.bool false) (.slice none 0 0) (.slice none 0 0)
  have py_0 := py.c0
  have py_1 := py.c1
  have py_2 := py.c2
  go_wp2_with fail
  go_ret
  exact ⟨rfl, hb.out⟩
set_option maxRecDepth 100000 in
set_option maxHeartbeats 4000000 in
theorem spells_many (s t : ByteArray) (hs : s.size ≤ 9223372036854775807) (ht : t.size ≤ 9223372036854775807) (w : World) (hT : Tabs w) (E1 : Hid (txtE s = 0)) (E2 : Hid (txtE t = 0)) (hl : ¬ (runesL (tl s 0)).length + (runesL (tl t 0)).length ≤ 4096) :
    Calls Tryd.prog 3 #[.string s, .string t] w fun e w' => e = .returned (.bool true) ∧ Below w.heap.size w w' := by
  have hb : Hid (Below w.heap.size w w) := Below.refl _ w
  go_enter Tryd.func3, Tryd.ntmps3
  go_wp2_with fail
  refine (text_ok ⟨#[97, 207, 137]⟩ w (by decide) hT lit_spell.1).mono ?_
  rintro e v1 ⟨fa, fc, ga, gc, he, _, hG, hB⟩
  replace hb : Hid (Below w.heap.size w v1) := hb.out.trans (hB.mono hb.out.size)
  replace hT := hT.go hB
  clear hB
  rw [lit_spell.2] at he hG
  subst he
  obtain ⟨b, off, rfl, _, hcell⟩ := hG.ints.at (q := 1) (by simp)
  have hc := hcell 1 (by simp)
  have hn : nth [97, 969] 1 = 969 := rfl
  rw [hn] at hc
  clear hcell hn
  have hlb := World.block_lt_of_cell? _ _ hc
  replace hb : Hid (Below w.heap.size w (v1.alloc (.cells #[.bool true, .slice fa 1 fc, .slice (some ⟨b, off, none⟩) 2 gc] 24))) := hb.out.alloc hb.out.size _
  replace hT := hT.al (.cells #[.bool true, .slice fa 1 fc, .slice (some ⟨b, off, none⟩) 2 gc] 24)
  replace hc : (v1.alloc (.cells #[.bool true, .slice fa 1 fc, .slice (some ⟨b, off, none⟩) 2 gc] 24)).cell? ⟨b, off + 1, none⟩ = some (.int .i64 969) := (World.cell?_alloc_lt _ _ ⟨b, off + 1, none⟩ hlb).trans hc
  clear hG
  go_wp2_with fail
  clear hc hlb
  refine (text_ok s _ (by omega) hT E1.out).mono ?_
  rintro e v2 ⟨xa1, xc1, ya1, yc1, rfl, hX1, hY1, hB⟩
  replace hb : Hid (Below w.heap.size w v2) := hb.out.trans (hB.mono hb.out.size)
  replace hT := hT.go hB
  clear hB
  replace hb : Hid (Below w.heap.size w (v2.alloc (.cells #[.bool true, .slice xa1 1 xc1, .slice ya1 (runesL (tl s 0)).length yc1] 24))) := hb.out.alloc hb.out.size _
  replace hT := hT.al (.cells #[.bool true, .slice xa1 1 xc1, .slice ya1 (runesL (tl s 0)).length yc1] 24)
  replace hY1 := hY1.al (.cells #[.bool true, .slice xa1 1 xc1, .slice ya1 (runesL (tl s 0)).length yc1] 24)
  have px := Abx.new v2 (.bool true) (.slice xa1 1 xc1) (.slice ya1 (runesL (tl s 0)).length yc1)
  have px_0 := px.c0
  have px_1 := px.c1
  have px_2 := px.c2
  go_wp2_with fail
  have hl' : (4096 : Int) < ((runesL (tl s 0)).length : Int) + ((runesL (tl t 0)).length : Int) := by omega
  have h41 := (txtE_zero.1 E1.out).2
  have h42 := (txtE_zero.1 E2.out).2
  refine (text_ok t _ (by omega) hT E2.out).mono ?_
  rintro e v3 ⟨xa2, xc2, ya2, yc2, rfl, hX2, hY2, hB⟩
  replace hb : Hid (Below w.heap.size w v3) := hb.out.trans (hB.mono hb.out.size)
  replace hT := hT.go hB
  replace hY1 := hY1.go hB
  replace px := px.go hB
  replace px_0 := px.c0
  replace px_1 := px.c1
  replace px_2 := px.c2
  clear hB
  replace hb : Hid (Below w.heap.size w (v3.alloc (.cells #[.bool true, .slice xa2 1 xc2, .slice ya2 (runesL (tl t 0)).length yc2] 24))) := hb.out.alloc hb.out.size _
  replace hT := hT.al (.cells #[.bool true, .slice xa2 1 xc2, .slice ya2 (runesL (tl t 0)).length yc2] 24)
  replace hY1 := hY1.al (.cells #[.bool true, .slice xa2 1 xc2, .slice ya2 (runesL (tl t 0)).length yc2] 24)
  replace px := px.al (.cells #[.bool true, .slice xa2 1 xc2, .slice ya2 (runesL (tl t 0)).length yc2] 24)
  replace hY2 := hY2.al (.cells #[.bool true, .slice xa2 1 xc2, .slice ya2 (runesL (tl t 0)).length yc2] 24)
  replace px_0 := px.c0
  replace px_1 := px.c1
  replace px_2 := px.c2
  have py := Abx.new v3 (.bool true) (.slice xa2 1 xc2) (.slice ya2 (runesL (tl t 0)).length yc2)
  have py_0 := py.c0
  have py_1 := py.c1
  have py_2 := py.c2
  go_wp2_with fail
  go_ret
  exact ⟨rfl, hb.out⟩
set_option maxRecDepth 100000 in
set_option maxHeartbeats 4000000 in
theorem spells_ok (s t : ByteArray) (hs : s.size ≤ 9223372036854775807) (ht : t.size ≤ 9223372036854775807) (w : World) (hT : Tabs w) (E1 : Hid (txtE s = 0)) (E2 : Hid (txtE t = 0)) (hl : (runesL (tl s 0)).length + (runesL (tl t 0)).length ≤ 4096) (J : Hid (txtE (s ++ t) = 0 ∧ runesL (tl (s ++ t) 0) = runesL (tl s 0) ++ runesL (tl t 0))) :
    Calls Tryd.prog 3 #[.string s, .string t] w fun e w' => e = .returned (.bool true) ∧ Below w.heap.size w w' := by
  have hb : Hid (Below w.heap.size w w) := Below.refl _ w
  go_enter Tryd.func3, Tryd.ntmps3
  go_wp2_with fail
  refine (text_ok ⟨#[97, 207, 137]⟩ w (by decide) hT lit_spell.1).mono ?_
  rintro e v1 ⟨fa, fc, ga, gc, he, _, hG, hB⟩
  replace hb : Hid (Below w.heap.size w v1) := hb.out.trans (hB.mono hb.out.size)
  replace hT := hT.go hB
  clear hB
  rw [lit_spell.2] at he hG
  subst he
  obtain ⟨b, off, rfl, _, hcell⟩ := hG.ints.at (q := 1) (by simp)
  have hc := hcell 1 (by simp)
  have hn : nth [97, 969] 1 = 969 := rfl
  rw [hn] at hc
  clear hcell hn
  have hlb := World.block_lt_of_cell? _ _ hc
  replace hb : Hid (Below w.heap.size w (v1.alloc (.cells #[.bool true, .slice fa 1 fc, .slice (some ⟨b, off, none⟩) 2 gc] 24))) := hb.out.alloc hb.out.size _
  replace hT := hT.al (.cells #[.bool true, .slice fa 1 fc, .slice (some ⟨b, off, none⟩) 2 gc] 24)
  replace hc : (v1.alloc (.cells #[.bool true, .slice fa 1 fc, .slice (some ⟨b, off, none⟩) 2 gc] 24)).cell? ⟨b, off + 1, none⟩ = some (.int .i64 969) := (World.cell?_alloc_lt _ _ ⟨b, off + 1, none⟩ hlb).trans hc
  clear hG
  go_wp2_with fail
  clear hc hlb
  refine (text_ok s _ (by omega) hT E1.out).mono ?_
  rintro e v2 ⟨xa1, xc1, ya1, yc1, rfl, hX1, hY1, hB⟩
  replace hb : Hid (Below w.heap.size w v2) := hb.out.trans (hB.mono hb.out.size)
  replace hT := hT.go hB
  clear hB
  replace hb : Hid (Below w.heap.size w (v2.alloc (.cells #[.bool true, .slice xa1 1 xc1, .slice ya1 (runesL (tl s 0)).length yc1] 24))) := hb.out.alloc hb.out.size _
  replace hT := hT.al (.cells #[.bool true, .slice xa1 1 xc1, .slice ya1 (runesL (tl s 0)).length yc1] 24)
  replace hY1 := hY1.al (.cells #[.bool true, .slice xa1 1 xc1, .slice ya1 (runesL (tl s 0)).length yc1] 24)
  have px := Abx.new v2 (.bool true) (.slice xa1 1 xc1) (.slice ya1 (runesL (tl s 0)).length yc1)
  have px_0 := px.c0
  have px_1 := px.c1
  have px_2 := px.c2
  go_wp2_with fail
  have hl' : ((runesL (tl s 0)).length : Int) + ((runesL (tl t 0)).length : Int) ≤ 4096 := by omega
  have h41 := (txtE_zero.1 E1.out).2
  have h42 := (txtE_zero.1 E2.out).2
  have q1 : s.size ≤ 16384 := by have := valid_size _ (tl s 0) (Nat.le_refl _); rw [tl_size] at this; omega
  have q2 : t.size ≤ 16384 := by have := valid_size _ (tl t 0) (Nat.le_refl _); rw [tl_size] at this; omega
  refine (text_ok t _ (by omega) hT E2.out).mono ?_
  rintro e v3 ⟨xa2, xc2, ya2, yc2, rfl, hX2, hY2, hB⟩
  replace hb : Hid (Below w.heap.size w v3) := hb.out.trans (hB.mono hb.out.size)
  replace hT := hT.go hB
  replace hY1 := hY1.go hB
  replace px := px.go hB
  replace px_0 := px.c0
  replace px_1 := px.c1
  replace px_2 := px.c2
  clear hB
  replace hb : Hid (Below w.heap.size w (v3.alloc (.cells #[.bool true, .slice xa2 1 xc2, .slice ya2 (runesL (tl t 0)).length yc2] 24))) := hb.out.alloc hb.out.size _
  replace hT := hT.al (.cells #[.bool true, .slice xa2 1 xc2, .slice ya2 (runesL (tl t 0)).length yc2] 24)
  replace hY1 := hY1.al (.cells #[.bool true, .slice xa2 1 xc2, .slice ya2 (runesL (tl t 0)).length yc2] 24)
  replace px := px.al (.cells #[.bool true, .slice xa2 1 xc2, .slice ya2 (runesL (tl t 0)).length yc2] 24)
  replace hY2 := hY2.al (.cells #[.bool true, .slice xa2 1 xc2, .slice ya2 (runesL (tl t 0)).length yc2] 24)
  replace px_0 := px.c0
  replace px_1 := px.c1
  replace px_2 := px.c2
  have py := Abx.new v3 (.bool true) (.slice xa2 1 xc2) (.slice ya2 (runesL (tl t 0)).length yc2)
  have py_0 := py.c0
  have py_1 := py.c1
  have py_2 := py.c2
  go_wp2_with fail
  refine (text_ok (s ++ t) _ (by rw [ByteArray.size_append]; omega) hT J.out.1).mono ?_
  rintro e v4 ⟨xa3, xc3, ya3, yc3, rfl, hX3, hY3, hB⟩
  replace hb : Hid (Below w.heap.size w v4) := hb.out.trans (hB.mono hb.out.size)
  replace hT := hT.go hB
  replace hY1 := hY1.go hB
  replace px := px.go hB
  replace hY2 := hY2.go hB
  replace py := py.go hB
  replace px_0 := px.c0
  replace px_1 := px.c1
  replace px_2 := px.c2
  replace py_0 := py.c0
  replace py_1 := py.c1
  replace py_2 := py.c2
  clear hB
  replace hb : Hid (Below w.heap.size w (v4.alloc (.cells #[.bool true, .slice xa3 1 xc3, .slice ya3 (runesL (tl (s ++ t) 0)).length yc3] 24))) := hb.out.alloc hb.out.size _
  replace hT := hT.al (.cells #[.bool true, .slice xa3 1 xc3, .slice ya3 (runesL (tl (s ++ t) 0)).length yc3] 24)
  replace hY1 := hY1.al (.cells #[.bool true, .slice xa3 1 xc3, .slice ya3 (runesL (tl (s ++ t) 0)).length yc3] 24)
  replace px := px.al (.cells #[.bool true, .slice xa3 1 xc3, .slice ya3 (runesL (tl (s ++ t) 0)).length yc3] 24)
  replace hY2 := hY2.al (.cells #[.bool true, .slice xa3 1 xc3, .slice ya3 (runesL (tl (s ++ t) 0)).length yc3] 24)
  replace py := py.al (.cells #[.bool true, .slice xa3 1 xc3, .slice ya3 (runesL (tl (s ++ t) 0)).length yc3] 24)
  replace hY3 := hY3.al (.cells #[.bool true, .slice xa3 1 xc3, .slice ya3 (runesL (tl (s ++ t) 0)).length yc3] 24)
  replace px_0 := px.c0
  replace px_1 := px.c1
  replace px_2 := px.c2
  replace py_0 := py.c0
  replace py_1 := py.c1
  replace py_2 := py.c2
  have pz := Abx.new v4 (.bool true) (.slice xa3 1 xc3) (.slice ya3 (runesL (tl (s ++ t) 0)).length yc3)
  have pz_0 := pz.c0
  have pz_1 := pz.c1
  have pz_2 := pz.c2
  go_wp2_with fail
  have hbd : Hid (Below w.heap.size w (v4.alloc (.cells #[.bool true, .slice xa3 1 xc3, .slice ya3 (runesL (tl (s ++ t) 0)).length yc3] 24)).drew) := hb.out.drew
  refine anyT_begin 8 (fun w' => w'.cell? ⟨v4.heap.size, 2, none⟩ = some (.slice ya3 (runesL (tl (s ++ t) 0)).length yc3) ∧ w'.cell? ⟨v2.heap.size, 2, none⟩ = some (.slice ya1 (runesL (tl s 0)).length yc1) ∧ w'.cell? ⟨v3.heap.size, 2, none⟩ = some (.slice ya2 (runesL (tl t 0)).length yc2)) 9 #[false, false, false, false, false, false, false, false, false] (by kernel_rfl) rfl rfl ?_
  refine anyT_put 0 66 ?rv0 #[true, false, false, false, false, false, false, false, false] rfl rfl rfl (by kernel_rfl) (by kernel_rfl) (by kernel_rfl) (fun _ _ _ h => h) (by decide) ?ry0 (fun _ => ⟨pz_2, px_2, py_2⟩) ?rm0
  case ry0 => first | exact Or.inl ⟨by rfl, by intro w'; go_simp; first | done | rfl⟩
  case rm0 =>
  simp only [Act.put, List.setIfInBounds_toArray, List.set_cons_zero, List.set_cons_succ]
  refine anyT_take 1 67 ?rv1 #[true, true, false, false, false, false, false, false, false] rfl rfl rfl (by kernel_rfl) (by kernel_rfl) (by kernel_rfl) (fun _ _ _ h => h) (by kernel_rfl) (by decide) (by kernel_rfl) ?ry1 (⟨pz_2, px_2, py_2⟩) ?rm1
  case ry1 => first | exact Or.inl ⟨by rfl, by intro w' hw'; (try dsimp only at hw'); go_simp; first | done | rfl⟩
  case rm1 =>
  simp only [Act.put, List.setIfInBounds_toArray, List.set_cons_zero, List.set_cons_succ]
  refine anyT_put 2 68 ?rv2 #[true, true, true, false, false, false, false, false, false] rfl rfl rfl (by kernel_rfl) (by kernel_rfl) (by kernel_rfl) (fun _ _ _ h => h) (by decide) ?ry2 (fun _ => ⟨pz_2, px_2, py_2⟩) ?rm2
  case ry2 => first | exact Or.inl ⟨by rfl, by intro w'; go_simp; first | done | rfl⟩
  case rm2 =>
  simp only [Act.put, List.setIfInBounds_toArray, List.set_cons_zero, List.set_cons_succ]
  refine anyT_take 3 69 ?rv3 #[true, true, true, true, false, false, false, false, false] rfl rfl rfl (by kernel_rfl) (by kernel_rfl) (by kernel_rfl) (fun _ _ _ h => h) (by kernel_rfl) (by decide) (by kernel_rfl) ?ry3 (⟨pz_2, px_2, py_2⟩) ?rm3
  case ry3 => first | exact Or.inl ⟨by rfl, by intro w' hw'; (try dsimp only at hw'); go_simp; first | done | rfl⟩
  case rm3 =>
  simp only [Act.put, List.setIfInBounds_toArray, List.set_cons_zero, List.set_cons_succ]
  refine anyT_put 4 70 ?rv4 #[true, true, true, true, true, false, false, false, false] rfl rfl rfl (by kernel_rfl) (by kernel_rfl) (by kernel_rfl) (fun _ _ _ h => h) (by decide) ?ry4 (fun _ => ⟨pz_2, px_2, py_2⟩) ?rm4
  case ry4 => first | exact Or.inl ⟨by rfl, by intro w'; go_simp; first | done | rfl⟩
  case rm4 =>
  simp only [Act.put, List.setIfInBounds_toArray, List.set_cons_zero, List.set_cons_succ]
  refine anyT_take 5 71 ?rv5 #[true, true, true, true, true, true, false, false, false] rfl rfl rfl (by kernel_rfl) (by kernel_rfl) (by kernel_rfl) (fun _ _ _ h => h) (by kernel_rfl) (by decide) (by kernel_rfl) ?ry5 (⟨pz_2, px_2, py_2⟩) ?rm5
  case ry5 => first | exact Or.inl ⟨by rfl, by intro w' hw'; (try dsimp only at hw'); go_simp; first | done | rfl⟩
  case rm5 =>
  simp only [Act.put, List.setIfInBounds_toArray, List.set_cons_zero, List.set_cons_succ]
  refine anyT_one 6 #[true, true, true, true, true, true, true, false, false] (by kernel_rfl) rfl rfl (fun K hK => ?_)
  go_simp
  go_wp2_with (go_at_call 6; refine (joinn_any ya1 yc1 (runesL (tl s 0)) ya2 yc2 (runesL (tl t 0)) (by omega) (by omega) (v4.alloc (.cells #[.bool true, .slice xa3 1 xc3, .slice ya3 (runesL (tl (s ++ t) 0)).length yc3] 24)).drew hY1.dr.ints hY2.dr.ints).mono ?_; rintro e u1 ⟨ja, jc, st, rfl, hst, hJ, hB4⟩)
  have Px := px.dr.go hB4
  have Py := py.dr.go hB4
  have Pz := pz.dr.go hB4
  have HY3 := hY3.dr.go hB4
  have hb4 := hbd.out.trans (hB4.mono hbd.out.size)
  refine hK.out _ _ (fun _ => ⟨Pz.c2, Px.c2, Py.c2⟩) ?_
  clear hK K
  refine anyT_one 7 #[true, true, true, true, true, true, true, true, false] (by kernel_rfl) rfl rfl (fun K hK => ?_)
  go_simp
  go_wp2_with (go_at_call 5; refine (ints_any ya3 yc3 (runesL (tl (s ++ t) 0)) ja jc st (by rw [J.out.2, List.length_append]; omega) _ u1 HY3.ints hJ.ints).mono ?_; rintro e u2 ⟨rfl, hB5⟩)
  have Px5 := Px.go hB5
  have Py5 := Py.go hB5
  have Pz5 := Pz.go hB5
  have hb5 := hb4.trans (hB5.mono hb4.size)
  refine hK.out _ _ (fun _ => ⟨Pz5.c2, Px5.c2, Py5.c2⟩) ?_
  clear hK K
  refine anyT_one 8 #[true, true, true, true, true, true, true, true, true] (by kernel_rfl) rfl rfl (fun K hK => ?_)
  go_simp
  refine hK.out _ _ (fun h => absurd h (by decide)) ?_
  clear hK K
  refine anyT_done (by kernel_rfl) ?_
  rw [show eqB (runesL (tl (s ++ t) 0)) st = true from eqB_true (by rw [hst.out, J.out.2])]
  have z0 := Pz5.c0
  go_wp2_with fail
  go_ret
  exact ⟨rfl, hb5⟩
theorem spells_walk (s t : ByteArray) (hs : s.size ≤ 9223372036854775807) (ht : t.size ≤ 9223372036854775807) (w : World) (hT : Tabs w) :
    Calls Tryd.prog 3 #[.string s, .string t] w fun e w' => e = .returned (.bool true) ∧ Below w.heap.size w w' := by
  by_cases e1 : txtE s = 0
  · by_cases e2 : txtE t = 0
    · by_cases hl : (runesL (tl s 0)).length + (runesL (tl t 0)).length ≤ 4096
      · exact spells_ok s t hs ht w hT e1 e2 hl (txt_join e1 e2 hl)
      · exact spells_many s t hs ht w hT e1 e2 hl
    · exact spells_yn s t hs ht w hT e1 e2
  · by_cases e2 : txtE t = 0
    · exact spells_ny s t hs ht w hT e1 e2
    · exact spells_nn s t hs ht w hT e1 e2
end Go.Proofs.YtkfdhnabhpnmcabDoor
