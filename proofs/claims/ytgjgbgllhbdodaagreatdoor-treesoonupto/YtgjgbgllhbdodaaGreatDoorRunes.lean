/-
  What the reference tells of a text: its characters, byte by byte.
-/
import Derived.Test.YtgjgbgllhbdodaaGreatDoorBas9
import Derived.Test.YtgjgbgllhbdodaaGreatDoorUtf
namespace Go.Proofs.YtgjgbgllhbdodaaGreatDoor
open Go.RowKit Go.Lib
set_option linter.unusedVariables false

/-- The characters of a text that is UTF-8; none of another one. -/
def runesV (s : ByteArray) : List Int := if validD (tl s 0) = true then runesL (tl s 0) else []
theorem ret2sb {a : Option Addr} {n m cap : Nat} {b d : Bool} (h : n = m) (h2 : b = d) : Ending.returned (.tuple #[.slice a n cap, .bool b]) = .returned (.tuple #[.slice a m cap, .bool d]) := by rw [h, h2]
theorem cv_bd {s : ByteArray} {i : Nat} (c : Int) (h0 : 0 ≤ c) (h1 : c < 32) {J : Nat} (hg : ∀ q, 1 ≤ q → q ≤ J → goes s (i + q)) (j : Nat) (hj : j ≤ J) (h3 : j ≤ 3) : 0 ≤ cv s i c j ∧ cv s i c j < 10000000 := by
  rcases (by omega : j = 0 ∨ j = 1 ∨ j = 2 ∨ j = 3) with rfl | rfl | rfl | rfl
  · simp only [cv]; omega
  · have g1 := hg 1 (by omega) (by omega)
    unfold goes at g1
    simp only [cv, Nat.zero_add]; omega
  · have g1 := hg 1 (by omega) (by omega)
    have g2 := hg 2 (by omega) (by omega)
    unfold goes at g1 g2
    simp only [cv, Nat.zero_add, Nat.reduceAdd]; omega
  · have g1 := hg 1 (by omega) (by omega)
    have g2 := hg 2 (by omega) (by omega)
    have g3 := hg 3 (by omega) (by omega)
    unfold goes at g1 g2 g3
    simp only [cv, Nat.zero_add, Nat.reduceAdd]; omega
theorem runesV_no {s : ByteArray} (h : validD (tl s 0) = false) : runesV s = [] := by unfold runesV; rw [h]; rfl
theorem runesV_ok {s : ByteArray} (h : validD (tl s 0) = true) : runesV s = runesL (tl s 0) := by unfold runesV; rw [if_pos h]
def RunesP (s : ByteArray) (w : World) (e : Ending) (w' : World) : Prop := ∃ g gc, e = .returned (.tuple #[.slice g (runesV s).length gc, .bool (validD (tl s 0))]) ∧ NewInts w.heap.size w' g (runesV s) ∧ Below w.heap.size w w'
theorem RunesP.no {s : ByteArray} {w w' : World} (h : validD (tl s 0) = false) (hB : Below w.heap.size w w') : RunesP s w (.returned (.tuple #[.slice none 0 0, .bool false])) w' :=
  ⟨none, 0, ret2sb (by rw [runesV_no h]; rfl) h.symm, by rw [runesV_no h]; exact .inl rfl, hB⟩
theorem RunesP.ok {s : ByteArray} {w w' : World} {g : Option Addr} {gc : Nat} {xs : List Int} (h : validD (tl s 0) = true) (hr : runesL (tl s 0) = xs) (hN : NewInts w.heap.size w' g xs) (hB : Below w.heap.size w w') : RunesP s w (.returned (.tuple #[.slice g xs.length gc, .bool true])) w' :=
  ⟨g, gc, ret2sb (by rw [runesV_ok h, hr]) h.symm, by rw [runesV_ok h, hr]; exact hN, hB⟩
set_option maxRecDepth 100000 in
set_option maxHeartbeats 8000000 in
theorem runes_any (s : ByteArray) (hs : s.size ≤ 1048576) (w : World) :
    Calls Tryz.prog 123 #[.string s] w fun e w' => RunesP s w e w' := by
  obtain ⟨i0, hi, hz0, hz1, hz2⟩ := info_parts Tryz.infoInt
  go_enter Tryz.func123, Tryz.ntmps123
  go_wp2_with fail
  go_loopw [4, 5] (fun v i' wr => ∃ (i : Nat) (xs : List Int), i' = .int .i64 i ∧ Hid (Rd s i xs) ∧ wr.ownsRow w.heap.size 3 1 v xs.length (xs.map (Value.int .i64)) ∧ Below w.heap.size w wr) (fun _ i' _ => s.size - (intOf i').toNat)
  case atStart => exact ⟨0, [], rfl, Rd.zero s, World.ownsRow_nil _ _ _ _, Below.refl _ _⟩
  case round =>
    obtain ⟨i, xs, rfl, HR, hown, hB⟩ := hrel
    have hil := HR.out.1
    have hxl := HR.out.2.2.2
    by_cases hlt : i < s.size
    · have hbt := bt_get s i hlt
      have hb256 := bt_lt s i
      have ilt : (i : Int) < (s.size : Int) := by omega
      rcases (by omega : bt s i < 128 ∨ (128 ≤ bt s i ∧ (bt s i < 192 ∨ 248 ≤ bt s i)) ∨ (192 ≤ bt s i ∧ bt s i < 224) ∨ (224 ≤ bt s i ∧ bt s i < 240) ∨ (240 ≤ bt s i ∧ bt s i < 248)) with hx | hx | hx | hx | hx
      · have HL : Hid (okR s i (bt s i : Int) 0) := ok0 hx
        go_wp2_with fail
        go_loop [9, 10] (fun c k => ∃ j : Nat, j ≤ 0 ∧ k = .int .i64 ((j + 1 : Nat) : Int) ∧ c = .int .i64 (cv s i (bt s i : Int) j) ∧ Hid (∀ q, 1 ≤ q → q ≤ j → goes s (i + q))) (fun _ k => 5 - (intOf k).toNat)
        case atStart => exact ⟨0, by omega, rfl, rfl, fun q h1 h2 => by omega⟩
        case round =>
          obtain ⟨j, hj, rfl, rfl, HG⟩ := hrel
          obtain rfl : j = 0 := by omega
          · · have HO : Hid (okR s i (cv s i (bt s i : Int) 0) 0) := HL.out
              have k1 : (0 : Int) ≤ cv s i (bt s i : Int) 0 := by show (0 : Int) ≤ (bt s i : Int); omega
              have k2 : cv s i (bt s i : Int) 0 < 128 := by show (bt s i : Int) < 128; omega
              have k3 : ¬ (55295 < cv s i (bt s i : Int) 0 ∧ cv s i (bt s i : Int) 0 < 57344) := by omega
              generalize cv s i (bt s i : Int) 0 = C at HO k1 k2 k3 ⊢
              have HX : Hid (Rd s (i + 1) (xs ++ [C])) := HR.out.next hlt HO.out
              have hbs := hB.size
              have k4 : C ≤ 55295 := by omega
              all_goals
                clear k3
                go_wp2_with (at_builtin; refine wpList_append_own _ rfl _ _ 33 rfl w.heap.size 3 i0 (.int .i64 0) 1 8 Tryz.underlying33 hi hz0 hz1 hz2 rfl (by decide) _ _ _ rfl (hown.alloc _) ⟨wr.heap.size, 0, none⟩ 1 1 [.int .i64 C] rfl rfl (cell_one_new _ _ _) (fun x hx => by simp at hx; subst hx; rfl) (by unfold maxLen; omega) (by omega) (by simp; omega) ?_; intro v' w3 hown' hgrow3 hnil3)
                have hB3 : Below w.heap.size w w3 := owns_below hB hbs hown hgrow3
                refine ⟨⟨i + 1, xs ++ [C], by go_num, HX, ?_, hB3⟩, by simp [intOf]; omega⟩
                rw [List.length_append, List.map_append]
                exact hown'
      · have hv : Hid (validD (tl s 0) = false) := HR.out.bad hlt (bad_stray hx.1 hx.2)
        have hx1 := hx.1
        rcases hx.2 with hx2 | hx2
        all_goals
          go_wp2_with fail
          go_ret2
          exact RunesP.no hv.out hB
      · have HL : Hid (Lead s i 1 ((bt s i : Int) - 192) 128) := by
          have q1 := hx.1
          have q2 := hx.2
          show Lead _ _ _ _ _
          unfold Lead
          omega
        have hd1 : decide ((192 : Int) ≤ (bt s i : Int)) = true := by have := hx.1; simp; omega
        have hd2 : decide ((bt s i : Int) < 224) = true := by have := hx.2; simp; omega
        go_wp2_with fail
        go_loop [9, 10] (fun c k => ∃ j : Nat, j ≤ 1 ∧ k = .int .i64 ((j + 1 : Nat) : Int) ∧ c = .int .i64 (cv s i ((bt s i : Int) - 192) j) ∧ Hid (∀ q, 1 ≤ q → q ≤ j → goes s (i + q))) (fun _ k => 5 - (intOf k).toNat)
        case atStart => exact ⟨0, by omega, rfl, rfl, fun q h1 h2 => by omega⟩
        case round =>
          obtain ⟨j, hj, rfl, rfl, HG⟩ := hrel
          by_cases hjM : j < 1
          · have hM : ((j + 1 : Nat) : Int) ≤ 1 := by omega
            by_cases hin : i + (j + 1) < s.size
            · have hbj := bt_get s (i + (j + 1)) hin
              have hj256 := bt_lt s (i + (j + 1))
              have hin' : ((i : Int) + ((j + 1 : Nat) : Int)) < (s.size : Int) := by omega
              rcases (by omega : bt s (i + (j + 1)) < 128 ∨ 192 ≤ bt s (i + (j + 1)) ∨ (128 ≤ bt s (i + (j + 1)) ∧ bt s (i + (j + 1)) < 192)) with hy | hy | hy
              · have hv : Hid (validD (tl s 0) = false) := HR.out.bad hlt (bad_cut HL.out (j := j + 1) (by omega) (by omega) (fun hg => by have := hg.2; omega))
                go_wp2_with fail
                go_ret2
                exact RunesP.no hv.out hB
              · have hv : Hid (validD (tl s 0) = false) := HR.out.bad hlt (bad_cut HL.out (j := j + 1) (by omega) (by omega) (fun hg => by have := hg.2; omega))
                go_wp2_with fail
                go_ret2
                exact RunesP.no hv.out hB
              · have hcv : Hid (cv s i ((bt s i : Int) - 192) (j + 1) = cv s i ((bt s i : Int) - 192) j * 64 + (bt s (i + (j + 1)) : Int) - 128) := rfl
                have hcb : 0 ≤ cv s i ((bt s i : Int) - 192) j ∧ cv s i ((bt s i : Int) - 192) j < 10000000 := cv_bd ((bt s i : Int) - 192) (by omega) (by omega) HG.out j (Nat.le_refl _) (by omega)
                have HN : Hid (∀ q, 1 ≤ q → q ≤ j + 1 → goes s (i + q)) := fun q h1 h2 => by
                  by_cases hq : q = j + 1
                  · rw [hq]; exact ⟨hin, hy.1, hy.2⟩
                  · exact HG.out q h1 (by omega)
                go_wp2_with fail
                go_round
                case rel => exact ⟨j + 1, by omega, by go_num, by rw [hcv.out], HN⟩
                case measure => simp [intOf]; omega
            · have hv : Hid (validD (tl s 0) = false) := HR.out.bad hlt (bad_cut HL.out (j := j + 1) (by omega) (by omega) (fun hg => hin hg.1))
              have hin' : ¬ ((i : Int) + ((j + 1 : Nat) : Int)) < (s.size : Int) := by omega
              go_wp2_with fail
              go_ret2
              exact RunesP.no hv.out hB
          · obtain rfl : j = 1 := by omega
            have hcb : 0 ≤ (cv s i ((bt s i : Int) - 192) 1) := (cv_bd ((bt s i : Int) - 192) (by omega) (by omega) HG.out 1 (Nat.le_refl _) (by omega)).1
            rcases lead_end HL.out HG.out with ⟨hbad, hwhy⟩ | ⟨hok, k1, k2, k3⟩
            · have hv : Hid (validD (tl s 0) = false) := HR.out.bad hlt hbad
              clear hbad
              generalize (cv s i ((bt s i : Int) - 192) 1) = C at hwhy hcb ⊢
              rcases hwhy with hy | hy | hy
              · go_wp2_with fail
                go_ret2
                exact RunesP.no hv.out hB
              · go_wp2_with fail
                go_ret2
                exact RunesP.no hv.out hB
              · go_wp2_with fail
                go_ret2
                exact RunesP.no hv.out hB
            · have HO : Hid (okR s i (cv s i ((bt s i : Int) - 192) 1) 1) := hok
              clear hok
              generalize (cv s i ((bt s i : Int) - 192) 1) = C at HO k1 k2 k3 hcb ⊢
              have HX : Hid (Rd s (i + 2) (xs ++ [C])) := HR.out.next hlt HO.out
              have hbs := hB.size
              rcases (by omega : C ≤ 55295 ∨ 57344 ≤ C) with k4 | k4
              all_goals
                clear k3
                go_wp2_with (at_builtin; refine wpList_append_own _ rfl _ _ 33 rfl w.heap.size 3 i0 (.int .i64 0) 1 8 Tryz.underlying33 hi hz0 hz1 hz2 rfl (by decide) _ _ _ rfl (hown.alloc _) ⟨wr.heap.size, 0, none⟩ 1 1 [.int .i64 C] rfl rfl (cell_one_new _ _ _) (fun x hx => by simp at hx; subst hx; rfl) (by unfold maxLen; omega) (by omega) (by simp; omega) ?_; intro v' w3 hown' hgrow3 hnil3)
                have hB3 : Below w.heap.size w w3 := owns_below hB hbs hown hgrow3
                refine ⟨⟨i + 2, xs ++ [C], by go_num, HX, ?_, hB3⟩, by simp [intOf]; omega⟩
                rw [List.length_append, List.map_append]
                exact hown'
      · have HL : Hid (Lead s i 2 ((bt s i : Int) - 224) 2048) := by
          have q1 := hx.1
          have q2 := hx.2
          show Lead _ _ _ _ _
          unfold Lead
          omega
        have hd1 : decide ((224 : Int) ≤ (bt s i : Int)) = true := by have := hx.1; simp; omega
        have hd2 : decide ((bt s i : Int) < 240) = true := by have := hx.2; simp; omega
        go_wp2_with fail
        go_loop [9, 10] (fun c k => ∃ j : Nat, j ≤ 2 ∧ k = .int .i64 ((j + 1 : Nat) : Int) ∧ c = .int .i64 (cv s i ((bt s i : Int) - 224) j) ∧ Hid (∀ q, 1 ≤ q → q ≤ j → goes s (i + q))) (fun _ k => 5 - (intOf k).toNat)
        case atStart => exact ⟨0, by omega, rfl, rfl, fun q h1 h2 => by omega⟩
        case round =>
          obtain ⟨j, hj, rfl, rfl, HG⟩ := hrel
          by_cases hjM : j < 2
          · have hM : ((j + 1 : Nat) : Int) ≤ 2 := by omega
            by_cases hin : i + (j + 1) < s.size
            · have hbj := bt_get s (i + (j + 1)) hin
              have hj256 := bt_lt s (i + (j + 1))
              have hin' : ((i : Int) + ((j + 1 : Nat) : Int)) < (s.size : Int) := by omega
              rcases (by omega : bt s (i + (j + 1)) < 128 ∨ 192 ≤ bt s (i + (j + 1)) ∨ (128 ≤ bt s (i + (j + 1)) ∧ bt s (i + (j + 1)) < 192)) with hy | hy | hy
              · have hv : Hid (validD (tl s 0) = false) := HR.out.bad hlt (bad_cut HL.out (j := j + 1) (by omega) (by omega) (fun hg => by have := hg.2; omega))
                go_wp2_with fail
                go_ret2
                exact RunesP.no hv.out hB
              · have hv : Hid (validD (tl s 0) = false) := HR.out.bad hlt (bad_cut HL.out (j := j + 1) (by omega) (by omega) (fun hg => by have := hg.2; omega))
                go_wp2_with fail
                go_ret2
                exact RunesP.no hv.out hB
              · have hcv : Hid (cv s i ((bt s i : Int) - 224) (j + 1) = cv s i ((bt s i : Int) - 224) j * 64 + (bt s (i + (j + 1)) : Int) - 128) := rfl
                have hcb : 0 ≤ cv s i ((bt s i : Int) - 224) j ∧ cv s i ((bt s i : Int) - 224) j < 10000000 := cv_bd ((bt s i : Int) - 224) (by omega) (by omega) HG.out j (Nat.le_refl _) (by omega)
                have HN : Hid (∀ q, 1 ≤ q → q ≤ j + 1 → goes s (i + q)) := fun q h1 h2 => by
                  by_cases hq : q = j + 1
                  · rw [hq]; exact ⟨hin, hy.1, hy.2⟩
                  · exact HG.out q h1 (by omega)
                go_wp2_with fail
                go_round
                case rel => exact ⟨j + 1, by omega, by go_num, by rw [hcv.out], HN⟩
                case measure => simp [intOf]; omega
            · have hv : Hid (validD (tl s 0) = false) := HR.out.bad hlt (bad_cut HL.out (j := j + 1) (by omega) (by omega) (fun hg => hin hg.1))
              have hin' : ¬ ((i : Int) + ((j + 1 : Nat) : Int)) < (s.size : Int) := by omega
              go_wp2_with fail
              go_ret2
              exact RunesP.no hv.out hB
          · obtain rfl : j = 2 := by omega
            have hcb : 0 ≤ (cv s i ((bt s i : Int) - 224) 2) := (cv_bd ((bt s i : Int) - 224) (by omega) (by omega) HG.out 2 (Nat.le_refl _) (by omega)).1
            rcases lead_end HL.out HG.out with ⟨hbad, hwhy⟩ | ⟨hok, k1, k2, k3⟩
            · have hv : Hid (validD (tl s 0) = false) := HR.out.bad hlt hbad
              clear hbad
              generalize (cv s i ((bt s i : Int) - 224) 2) = C at hwhy hcb ⊢
              rcases hwhy with hy | hy | hy
              · go_wp2_with fail
                go_ret2
                exact RunesP.no hv.out hB
              · go_wp2_with fail
                go_ret2
                exact RunesP.no hv.out hB
              · go_wp2_with fail
                go_ret2
                exact RunesP.no hv.out hB
            · have HO : Hid (okR s i (cv s i ((bt s i : Int) - 224) 2) 2) := hok
              clear hok
              generalize (cv s i ((bt s i : Int) - 224) 2) = C at HO k1 k2 k3 hcb ⊢
              have HX : Hid (Rd s (i + 3) (xs ++ [C])) := HR.out.next hlt HO.out
              have hbs := hB.size
              rcases (by omega : C ≤ 55295 ∨ 57344 ≤ C) with k4 | k4
              all_goals
                clear k3
                go_wp2_with (at_builtin; refine wpList_append_own _ rfl _ _ 33 rfl w.heap.size 3 i0 (.int .i64 0) 1 8 Tryz.underlying33 hi hz0 hz1 hz2 rfl (by decide) _ _ _ rfl (hown.alloc _) ⟨wr.heap.size, 0, none⟩ 1 1 [.int .i64 C] rfl rfl (cell_one_new _ _ _) (fun x hx => by simp at hx; subst hx; rfl) (by unfold maxLen; omega) (by omega) (by simp; omega) ?_; intro v' w3 hown' hgrow3 hnil3)
                have hB3 : Below w.heap.size w w3 := owns_below hB hbs hown hgrow3
                refine ⟨⟨i + 3, xs ++ [C], by go_num, HX, ?_, hB3⟩, by simp [intOf]; omega⟩
                rw [List.length_append, List.map_append]
                exact hown'
      · have HL : Hid (Lead s i 3 ((bt s i : Int) - 240) 65536) := by
          have q1 := hx.1
          have q2 := hx.2
          show Lead _ _ _ _ _
          unfold Lead
          omega
        have hd1 : decide ((240 : Int) ≤ (bt s i : Int)) = true := by have := hx.1; simp; omega
        have hd2 : decide ((bt s i : Int) < 248) = true := by have := hx.2; simp; omega
        go_wp2_with fail
        go_loop [9, 10] (fun c k => ∃ j : Nat, j ≤ 3 ∧ k = .int .i64 ((j + 1 : Nat) : Int) ∧ c = .int .i64 (cv s i ((bt s i : Int) - 240) j) ∧ Hid (∀ q, 1 ≤ q → q ≤ j → goes s (i + q))) (fun _ k => 5 - (intOf k).toNat)
        case atStart => exact ⟨0, by omega, rfl, rfl, fun q h1 h2 => by omega⟩
        case round =>
          obtain ⟨j, hj, rfl, rfl, HG⟩ := hrel
          by_cases hjM : j < 3
          · have hM : ((j + 1 : Nat) : Int) ≤ 3 := by omega
            by_cases hin : i + (j + 1) < s.size
            · have hbj := bt_get s (i + (j + 1)) hin
              have hj256 := bt_lt s (i + (j + 1))
              have hin' : ((i : Int) + ((j + 1 : Nat) : Int)) < (s.size : Int) := by omega
              rcases (by omega : bt s (i + (j + 1)) < 128 ∨ 192 ≤ bt s (i + (j + 1)) ∨ (128 ≤ bt s (i + (j + 1)) ∧ bt s (i + (j + 1)) < 192)) with hy | hy | hy
              · have hv : Hid (validD (tl s 0) = false) := HR.out.bad hlt (bad_cut HL.out (j := j + 1) (by omega) (by omega) (fun hg => by have := hg.2; omega))
                go_wp2_with fail
                go_ret2
                exact RunesP.no hv.out hB
              · have hv : Hid (validD (tl s 0) = false) := HR.out.bad hlt (bad_cut HL.out (j := j + 1) (by omega) (by omega) (fun hg => by have := hg.2; omega))
                go_wp2_with fail
                go_ret2
                exact RunesP.no hv.out hB
              · have hcv : Hid (cv s i ((bt s i : Int) - 240) (j + 1) = cv s i ((bt s i : Int) - 240) j * 64 + (bt s (i + (j + 1)) : Int) - 128) := rfl
                have hcb : 0 ≤ cv s i ((bt s i : Int) - 240) j ∧ cv s i ((bt s i : Int) - 240) j < 10000000 := cv_bd ((bt s i : Int) - 240) (by omega) (by omega) HG.out j (Nat.le_refl _) (by omega)
                have HN : Hid (∀ q, 1 ≤ q → q ≤ j + 1 → goes s (i + q)) := fun q h1 h2 => by
                  by_cases hq : q = j + 1
                  · rw [hq]; exact ⟨hin, hy.1, hy.2⟩
                  · exact HG.out q h1 (by omega)
                go_wp2_with fail
                go_round
                case rel => exact ⟨j + 1, by omega, by go_num, by rw [hcv.out], HN⟩
                case measure => simp [intOf]; omega
            · have hv : Hid (validD (tl s 0) = false) := HR.out.bad hlt (bad_cut HL.out (j := j + 1) (by omega) (by omega) (fun hg => hin hg.1))
              have hin' : ¬ ((i : Int) + ((j + 1 : Nat) : Int)) < (s.size : Int) := by omega
              go_wp2_with fail
              go_ret2
              exact RunesP.no hv.out hB
          · obtain rfl : j = 3 := by omega
            have hcb : 0 ≤ (cv s i ((bt s i : Int) - 240) 3) := (cv_bd ((bt s i : Int) - 240) (by omega) (by omega) HG.out 3 (Nat.le_refl _) (by omega)).1
            rcases lead_end HL.out HG.out with ⟨hbad, hwhy⟩ | ⟨hok, k1, k2, k3⟩
            · have hv : Hid (validD (tl s 0) = false) := HR.out.bad hlt hbad
              clear hbad
              generalize (cv s i ((bt s i : Int) - 240) 3) = C at hwhy hcb ⊢
              rcases hwhy with hy | hy | hy
              · go_wp2_with fail
                go_ret2
                exact RunesP.no hv.out hB
              · go_wp2_with fail
                go_ret2
                exact RunesP.no hv.out hB
              · go_wp2_with fail
                go_ret2
                exact RunesP.no hv.out hB
            · have HO : Hid (okR s i (cv s i ((bt s i : Int) - 240) 3) 3) := hok
              clear hok
              generalize (cv s i ((bt s i : Int) - 240) 3) = C at HO k1 k2 k3 hcb ⊢
              have HX : Hid (Rd s (i + 4) (xs ++ [C])) := HR.out.next hlt HO.out
              have hbs := hB.size
              have k4 : 57344 ≤ C := by omega
              all_goals
                clear k3
                go_wp2_with (at_builtin; refine wpList_append_own _ rfl _ _ 33 rfl w.heap.size 3 i0 (.int .i64 0) 1 8 Tryz.underlying33 hi hz0 hz1 hz2 rfl (by decide) _ _ _ rfl (hown.alloc _) ⟨wr.heap.size, 0, none⟩ 1 1 [.int .i64 C] rfl rfl (cell_one_new _ _ _) (fun x hx => by simp at hx; subst hx; rfl) (by unfold maxLen; omega) (by omega) (by simp; omega) ?_; intro v' w3 hown' hgrow3 hnil3)
                have hB3 : Below w.heap.size w w3 := owns_below hB hbs hown hgrow3
                refine ⟨⟨i + 4, xs ++ [C], by go_num, HX, ?_, hB3⟩, by simp [intOf]; omega⟩
                rw [List.length_append, List.map_append]
                exact hown'
    · have hv := HR.out.fin hlt
      have hr := HR.out.done hlt
      obtain ⟨g, c, rfl, hN⟩ := owns_new hown
      have HV : Hid (validD (tl s 0) = true ∧ runesL (tl s 0) = xs) := ⟨hv, hr⟩
      clear hv hr hown
      go_wp2_with fail
      go_ret2
      exact RunesP.ok HV.out.1 HV.out.2 hN hB
end Go.Proofs.YtgjgbgllhbdodaaGreatDoor
