/-
  The library's merge in place, of numbers, where one of the two runs is one number.
-/
import Derived.Test.YteddkfeiikdekaaSrti
namespace Go.Proofs.Yteddkfeiikdekaa
open Go.RowKit
set_option linter.unusedVariables false

set_option maxRecDepth 100000 in
set_option maxHeartbeats 4000000 in
theorem sm1_any (S n sc : Nat) (f : Nat) (cs : List Value) (hE : ∀ args w, (callFunc f args).run Try.prog w = .ok (.enter f args) w) (lt : Nat → Nat → Bool) (c : Nat → Nat → Int) (T : Tot lt n) (hcl : ∀ x y, x < n → y < n → y < x → (c x y < 0 ↔ lt x y = true)) (w0 : World) (hC : CmpF f cs n c S w0)
    (a m b : Nat) (z : List Int) (hl : z.length = n) (ho : IsOrd z) (hn : n ≤ 4096) (hm : m = a + 1) (hmb : m < b) (hb : b ≤ n) (hr2 : Ris lt z m b) (hs : Sep z a m b) (w : World) (hw : w0.grownBy w (some S)) (hrow : w.rowIs S 3 n (zc z)) :
    Calls Try.prog 69 #[.slice (some ⟨S, 0, none⟩) n sc, .int .i64 (a : Nat), .int .i64 (m : Nat), .int .i64 (b : Nat), .func (.func f) #[] cs.toArray] w (Sod S n lt a b z w) := by
  have HR : Hid (w.rowIs S 3 n (zc z)) := hrow
  have HL : Hid (z.length = n ∧ IsOrd z) := ⟨hl, ho⟩
  have HT : Hid (Tot lt n ∧ (∀ x y, x < n → y < n → y < x → (c x y < 0 ↔ lt x y = true))) := ⟨T, hcl⟩
  have HC : Hid (CmpF f cs n c S w0) := hC
  have HW0 : Hid (w0.grownBy w (some S)) := hw
  have HS : Hid (Ris lt z m b ∧ Sep z a m b) := ⟨hr2, hs⟩
  have HF : Hid (Fall (Pa1 lt z a) m b) := Pa1_fall T ho hl (by omega) hb hr2
  have HM : Hid (m = a + 1) := hm
  have hma : IntKind.i64.wrap ((m : Int) - (a : Int)) = 1 := by rw [wr_sm (by omega)]; omega
  have hma2 : (m : Int) - (a : Int) = 1 := by omega
  have ham : a < m := by omega
  clear hrow hl ho T hcl hC hr2 hs hw hm
  go_enter Try.func69, Try.ntmps69
  go_wp2_with fail
  go_loopw [10, 11] (fun vi vj wr => ∃ i j : Nat, vi = .int .i64 i ∧ vj = .int .i64 j ∧ wr.rowIs S 3 n (zc z) ∧ w.grownBy wr (some S) ∧ Bs (Pa1 lt z a) m b i j) (fun vi vj _ => (intOf vj).toNat - (intOf vi).toNat)
  case atStart => exact ⟨m, b, rfl, rfl, HR.out, World.grownBy.refl _ _, Bs.zero (by omega)⟩
  case round =>
    obtain ⟨i, j, rfl, rfl, hrow, hG, hBs⟩ := hrel
    have hb1 := hBs.l
    have hb2 := hBs.r
    have hb3 := hBs.m
    have HRw : Hid (wr.rowIs S 3 n (zc z)) := hrow
    have HG : Hid (w.grownBy wr (some S)) := hG
    have HBs : Hid (Bs (Pa1 lt z a) m b i j) := hBs
    by_cases hij : i < j
    · obtain ⟨h, hh⟩ : ∃ h : Nat, h = (i + j) / 2 := ⟨_, rfl⟩
      have hih : i ≤ h := by omega
      have hhj : h < j := by omega
      have eh : ((i : Int) + (j : Int)) / 2 = (h : Int) := by omega
      clear hh
      have hhn : h < n := by omega
      have hXn : h < n := by omega
      have hYn : a < n := by omega
      have cX := zc_at hrow HL.out.2 HL.out.1 hXn
      have cY := zc_at hrow HL.out.2 HL.out.1 hYn
      obtain ⟨X, hX⟩ : ∃ X, X = nt z h := ⟨_, rfl⟩
      obtain ⟨Y, hY⟩ : ∃ Y, Y = nt z a := ⟨_, rfl⟩
      rw [← hX] at cX
      rw [← hY] at cY
      have hXl : X < n := by rw [hX]; exact nt_lt HL.out.2 HL.out.1 hXn
      have hYl : Y < n := by rw [hY]; exact nt_lt HL.out.2 HL.out.1 hYn
      have HCL : Hid (c X Y < 0 ↔ lt (nt z h) (nt z a) = true) := by
        rw [← hX, ← hY]
        exact HT.out.2 X Y hXl hYl (by rw [hX, hY]; exact HS.out.2 a h (Nat.le_refl _) ham (by omega) (by omega))
      have HCC : Hid (Calls Try.prog f (.int .i64 (X : Nat) :: .int .i64 (Y : Nat) :: cs).toArray wr.drew fun r W' => r = .returned (.int .i64 (c X Y)) ∧ Below wr.drew.heap.size wr.drew W') :=
        HC.out X Y wr.drew hXl hYl (sgrown_t HW0.out (sgrown_t HG.out ⟨rfl, rfl, rfl, Nat.le_refl _, fun _ _ _ => rfl⟩))
      have hSz : S < wr.heap.size := hrow.lt
      clear hrow hG hBs hX hY
      by_cases hc : c X Y < 0
      · have HLL : Hid (Pa1 lt z a h = true) := by show _ = _; exact HCL.out.1 hc
        go_wp2_with fail
        refine anyT_begin 9 (fun w' => w'.cell? ⟨S, h, none⟩ = some (.int .i64 (X : Nat)) ∧ w'.cell? ⟨S, a, none⟩ = some (.int .i64 (Y : Nat))) 11 #[false, false, false, false, false, false, false, false, false, false, false] (by kernel_rfl) rfl rfl ?_
        refine anyT_put 0 40 ?rv111 #[true, false, false, false, false, false, false, false, false, false, false] rfl rfl rfl (by kernel_rfl) (by kernel_rfl) (by kernel_rfl) (fun _ _ _ h => h) (by decide) ?ry111 (fun _ => ⟨cX, cY⟩) ?rm111
        case ry111 => first | exact Or.inl ⟨by rfl, by intro w'; go_simp; first | done | rfl⟩
        case rm111 =>
        simp only [Act.put, List.setIfInBounds_toArray, List.set_cons_zero, List.set_cons_succ]
        refine anyT_put 1 41 ?rv112 #[true, true, false, false, false, false, false, false, false, false, false] rfl rfl rfl (by kernel_rfl) (by kernel_rfl) (by kernel_rfl) (fun _ _ _ h => h) (by decide) ?ry112 (fun _ => ⟨cX, cY⟩) ?rm112
        case ry112 => first | exact Or.inl ⟨by rfl, by intro w'; go_simp; first | done | rfl⟩
        case rm112 =>
        simp only [Act.put, List.setIfInBounds_toArray, List.set_cons_zero, List.set_cons_succ]
        refine anyT_put 2 42 ?rv113 #[true, true, true, false, false, false, false, false, false, false, false] rfl rfl rfl (by kernel_rfl) (by kernel_rfl) (by kernel_rfl) (fun _ _ _ h => h) (by decide) ?ry113 (fun _ => ⟨cX, cY⟩) ?rm113
        case ry113 => first | exact Or.inl ⟨by rfl, by intro w'; go_simp; first | done | rfl⟩
        case rm113 =>
        simp only [Act.put, List.setIfInBounds_toArray, List.set_cons_zero, List.set_cons_succ]
        refine anyT_put 3 43 ?rv114 #[true, true, true, true, false, false, false, false, false, false, false] rfl rfl rfl (by kernel_rfl) (by kernel_rfl) (by kernel_rfl) (fun _ _ _ h => h) (by decide) ?ry114 (fun _ => ⟨cX, cY⟩) ?rm114
        case ry114 => first | exact Or.inl ⟨by rfl, by intro w'; go_simp; first | done | rfl⟩
        case rm114 =>
        simp only [Act.put, List.setIfInBounds_toArray, List.set_cons_zero, List.set_cons_succ]
        refine anyT_take 4 44 ?rv115 #[true, true, true, true, true, false, false, false, false, false, false] rfl rfl rfl (by kernel_rfl) (by kernel_rfl) (by kernel_rfl) (fun _ _ _ h => h) (by kernel_rfl) (by decide) (by kernel_rfl) ?ry115 (⟨cX, cY⟩) ?rm115
        case ry115 => first | exact Or.inl ⟨by rfl, by intro w' hw'; (try dsimp only at hw'); go_simp; first | done | rfl⟩
        case rm115 =>
        simp only [Act.put, List.setIfInBounds_toArray, List.set_cons_zero, List.set_cons_succ]
        refine anyT_put 5 45 ?rv116 #[true, true, true, true, true, true, false, false, false, false, false] rfl rfl rfl (by kernel_rfl) (by kernel_rfl) (by kernel_rfl) (fun _ _ _ h => h) (by decide) ?ry116 (fun _ => ⟨cX, cY⟩) ?rm116
        case ry116 => first | exact Or.inl ⟨by rfl, by intro w'; go_simp; first | done | rfl⟩
        case rm116 =>
        simp only [Act.put, List.setIfInBounds_toArray, List.set_cons_zero, List.set_cons_succ]
        refine anyT_put 6 46 ?rv117 #[true, true, true, true, true, true, true, false, false, false, false] rfl rfl rfl (by kernel_rfl) (by kernel_rfl) (by kernel_rfl) (fun _ _ _ h => h) (by decide) ?ry117 (fun _ => ⟨cX, cY⟩) ?rm117
        case ry117 => first | exact Or.inl ⟨by rfl, by intro w'; go_simp; first | done | rfl⟩
        case rm117 =>
        simp only [Act.put, List.setIfInBounds_toArray, List.set_cons_zero, List.set_cons_succ]
        refine anyT_put 7 47 ?rv118 #[true, true, true, true, true, true, true, true, false, false, false] rfl rfl rfl (by kernel_rfl) (by kernel_rfl) (by kernel_rfl) (fun _ _ _ h => h) (by decide) ?ry118 (fun _ => ⟨cX, cY⟩) ?rm118
        case ry118 => first | exact Or.inl ⟨by rfl, by intro w'; go_simp; first | done | rfl⟩
        case rm118 =>
        simp only [Act.put, List.setIfInBounds_toArray, List.set_cons_zero, List.set_cons_succ]
        refine anyT_take 8 48 ?rv119 #[true, true, true, true, true, true, true, true, true, false, false] rfl rfl rfl (by kernel_rfl) (by kernel_rfl) (by kernel_rfl) (fun _ _ _ h => h) (by kernel_rfl) (by decide) (by kernel_rfl) ?ry119 (⟨cX, cY⟩) ?rm119
        case ry119 => first | exact Or.inl ⟨by rfl, by intro w' hw'; (try dsimp only at hw'); go_simp; first | done | rfl⟩
        case rm119 =>
        simp only [Act.put, List.setIfInBounds_toArray, List.set_cons_zero, List.set_cons_succ]
        refine anyT_one 9 #[true, true, true, true, true, true, true, true, true, true, false] (by kernel_rfl) rfl rfl (fun K hK => ?_)
        go_simp
        go_wp2_with fail
        refine HCC.out.mono ?_
        rintro e v1 ⟨rfl, hB1⟩
        refine hK.out _ _ (fun h => absurd h (by decide)) ?_
        clear hK K
        refine anyT_one 10 #[true, true, true, true, true, true, true, true, true, true, true] (by kernel_rfl) rfl rfl (fun K hK => ?_)
        go_simp
        refine hK.out _ _ (fun h => absurd h (by decide)) ?_
        clear hK K
        refine anyT_done (by kernel_rfl) ?_
        have HR1 : Hid (v1.rowIs S 3 n (zc z)) := HRw.out.of_block (hB1.block S hSz)
        have HG1 : Hid (w.grownBy v1 (some S)) := sgrown_bel (w := wr) HG.out ((Below.refl _ wr).drew.trans hB1)
        clear hB1 cX cY
        go_wp2_with fail
        exact ⟨⟨h + 1, j, by go_num, rfl, HR1.out, HG1.out, HBs.out.up HF.out hih hhj HLL.out⟩, by simp [intOf]; omega⟩
      · have HLL : Hid (Pa1 lt z a h = false) := by show _ = _; unfold Pa1; exact Bool.eq_false_iff.2 (fun q => hc (HCL.out.2 q))
        have hcb : decide (c X Y < 0) = false := decide_eq_false hc
        go_wp2_with fail
        refine anyT_begin 9 (fun w' => w'.cell? ⟨S, h, none⟩ = some (.int .i64 (X : Nat)) ∧ w'.cell? ⟨S, a, none⟩ = some (.int .i64 (Y : Nat))) 11 #[false, false, false, false, false, false, false, false, false, false, false] (by kernel_rfl) rfl rfl ?_
        refine anyT_put 0 40 ?rv122 #[true, false, false, false, false, false, false, false, false, false, false] rfl rfl rfl (by kernel_rfl) (by kernel_rfl) (by kernel_rfl) (fun _ _ _ h => h) (by decide) ?ry122 (fun _ => ⟨cX, cY⟩) ?rm122
        case ry122 => first | exact Or.inl ⟨by rfl, by intro w'; go_simp; first | done | rfl⟩
        case rm122 =>
        simp only [Act.put, List.setIfInBounds_toArray, List.set_cons_zero, List.set_cons_succ]
        refine anyT_put 1 41 ?rv123 #[true, true, false, false, false, false, false, false, false, false, false] rfl rfl rfl (by kernel_rfl) (by kernel_rfl) (by kernel_rfl) (fun _ _ _ h => h) (by decide) ?ry123 (fun _ => ⟨cX, cY⟩) ?rm123
        case ry123 => first | exact Or.inl ⟨by rfl, by intro w'; go_simp; first | done | rfl⟩
        case rm123 =>
        simp only [Act.put, List.setIfInBounds_toArray, List.set_cons_zero, List.set_cons_succ]
        refine anyT_put 2 42 ?rv124 #[true, true, true, false, false, false, false, false, false, false, false] rfl rfl rfl (by kernel_rfl) (by kernel_rfl) (by kernel_rfl) (fun _ _ _ h => h) (by decide) ?ry124 (fun _ => ⟨cX, cY⟩) ?rm124
        case ry124 => first | exact Or.inl ⟨by rfl, by intro w'; go_simp; first | done | rfl⟩
        case rm124 =>
        simp only [Act.put, List.setIfInBounds_toArray, List.set_cons_zero, List.set_cons_succ]
        refine anyT_put 3 43 ?rv125 #[true, true, true, true, false, false, false, false, false, false, false] rfl rfl rfl (by kernel_rfl) (by kernel_rfl) (by kernel_rfl) (fun _ _ _ h => h) (by decide) ?ry125 (fun _ => ⟨cX, cY⟩) ?rm125
        case ry125 => first | exact Or.inl ⟨by rfl, by intro w'; go_simp; first | done | rfl⟩
        case rm125 =>
        simp only [Act.put, List.setIfInBounds_toArray, List.set_cons_zero, List.set_cons_succ]
        refine anyT_take 4 44 ?rv126 #[true, true, true, true, true, false, false, false, false, false, false] rfl rfl rfl (by kernel_rfl) (by kernel_rfl) (by kernel_rfl) (fun _ _ _ h => h) (by kernel_rfl) (by decide) (by kernel_rfl) ?ry126 (⟨cX, cY⟩) ?rm126
        case ry126 => first | exact Or.inl ⟨by rfl, by intro w' hw'; (try dsimp only at hw'); go_simp; first | done | rfl⟩
        case rm126 =>
        simp only [Act.put, List.setIfInBounds_toArray, List.set_cons_zero, List.set_cons_succ]
        refine anyT_put 5 45 ?rv127 #[true, true, true, true, true, true, false, false, false, false, false] rfl rfl rfl (by kernel_rfl) (by kernel_rfl) (by kernel_rfl) (fun _ _ _ h => h) (by decide) ?ry127 (fun _ => ⟨cX, cY⟩) ?rm127
        case ry127 => first | exact Or.inl ⟨by rfl, by intro w'; go_simp; first | done | rfl⟩
        case rm127 =>
        simp only [Act.put, List.setIfInBounds_toArray, List.set_cons_zero, List.set_cons_succ]
        refine anyT_put 6 46 ?rv128 #[true, true, true, true, true, true, true, false, false, false, false] rfl rfl rfl (by kernel_rfl) (by kernel_rfl) (by kernel_rfl) (fun _ _ _ h => h) (by decide) ?ry128 (fun _ => ⟨cX, cY⟩) ?rm128
        case ry128 => first | exact Or.inl ⟨by rfl, by intro w'; go_simp; first | done | rfl⟩
        case rm128 =>
        simp only [Act.put, List.setIfInBounds_toArray, List.set_cons_zero, List.set_cons_succ]
        refine anyT_put 7 47 ?rv129 #[true, true, true, true, true, true, true, true, false, false, false] rfl rfl rfl (by kernel_rfl) (by kernel_rfl) (by kernel_rfl) (fun _ _ _ h => h) (by decide) ?ry129 (fun _ => ⟨cX, cY⟩) ?rm129
        case ry129 => first | exact Or.inl ⟨by rfl, by intro w'; go_simp; first | done | rfl⟩
        case rm129 =>
        simp only [Act.put, List.setIfInBounds_toArray, List.set_cons_zero, List.set_cons_succ]
        refine anyT_take 8 48 ?rv130 #[true, true, true, true, true, true, true, true, true, false, false] rfl rfl rfl (by kernel_rfl) (by kernel_rfl) (by kernel_rfl) (fun _ _ _ h => h) (by kernel_rfl) (by decide) (by kernel_rfl) ?ry130 (⟨cX, cY⟩) ?rm130
        case ry130 => first | exact Or.inl ⟨by rfl, by intro w' hw'; (try dsimp only at hw'); go_simp; first | done | rfl⟩
        case rm130 =>
        simp only [Act.put, List.setIfInBounds_toArray, List.set_cons_zero, List.set_cons_succ]
        refine anyT_one 9 #[true, true, true, true, true, true, true, true, true, true, false] (by kernel_rfl) rfl rfl (fun K hK => ?_)
        go_simp
        go_wp2_with fail
        refine HCC.out.mono ?_
        rintro e v1 ⟨rfl, hB1⟩
        refine hK.out _ _ (fun h => absurd h (by decide)) ?_
        clear hK K
        refine anyT_one 10 #[true, true, true, true, true, true, true, true, true, true, true] (by kernel_rfl) rfl rfl (fun K hK => ?_)
        go_simp
        refine hK.out _ _ (fun h => absurd h (by decide)) ?_
        clear hK K
        refine anyT_done (by kernel_rfl) ?_
        have HR1 : Hid (v1.rowIs S 3 n (zc z)) := HRw.out.of_block (hB1.block S hSz)
        have HG1 : Hid (w.grownBy v1 (some S)) := sgrown_bel (w := wr) HG.out ((Below.refl _ wr).drew.trans hB1)
        clear hB1 cX cY
        go_wp2_with fail
        exact ⟨⟨i, h, rfl, rfl, HR1.out, HG1.out, HBs.out.down HF.out hih hhj HLL.out⟩, by simp [intOf]; omega⟩
    · obtain rfl : i = j := by omega
      clear hrow hG hBs
      go_wp2_with fail
      go_loopw [13] (fun vk wr => ∃ k : Nat, a ≤ k ∧ k + 1 ≤ i ∧ vk = .int .i64 k ∧ wr.rowIs S 3 n (zc (mvL (shL a k) z)) ∧ w.grownBy wr (some S)) (fun vk _ => i - (intOf vk).toNat)
      case atStart => exact ⟨a, Nat.le_refl _, by omega, rfl, by rw [shL_zero]; exact HRw.out, HG.out⟩
      case round =>
        obtain ⟨k, hk1, hk2, rfl, hrow, hG⟩ := hrel
        by_cases hki : k + 1 < i
        · have hki2 : (k : Int) < (i : Int) - 1 := by omega
          have hL2 : (mvL (shL a k) z).length = n := by rw [mvL_length]; exact HL.out.1
          obtain ⟨K, hK⟩ : ∃ K : Nat, K = k + 1 := ⟨k + 1, by omega⟩
          have hkn : k < n := by omega
          have hKn : K < n := by omega
          have hkK : k ≠ K := by omega
          have ck := hrow.cell hkn
          have cK := hrow.cell hKn
          have fk := hrow.frozen k
          have fK := hrow.frozen K
          unfold zc at ck cK
          have HS2 : Hid (((wr.setCell ⟨S, k, none⟩ (.int .i64 (nth (mvL (shL a k) z) K))).setCell ⟨S, K, none⟩ (.int .i64 (nth (mvL (shL a k) z) k))).rowIs S 3 n (zc (mvL (shL a K) z))) := by
            refine zc_swap2 hrow hL2 hkn hKn rfl rfl ?_
            have h := shL_step (z := z) (a := a) (k := k) hk1 (by rw [HL.out.1]; omega); rw [← hK] at h; exact h
          obtain ⟨xk, hxk⟩ : ∃ x, x = nth (mvL (shL a k) z) k := ⟨_, rfl⟩
          obtain ⟨xK, hxK⟩ : ∃ x, x = nth (mvL (shL a k) z) K := ⟨_, rfl⟩
          rw [← hxk] at ck
          rw [← hxK] at cK
          rw [← hxk, ← hxK] at HS2
          have w1 : IntKind.i64.wrap ((k : Int) + 1) = (K : Int) := by rw [wr_sm (by omega)]; omega
          have HK : Hid (K = k + 1) := hK
          have HG2 : Hid (w.grownBy wr (some S)) := hG
          clear hrow hG hL2 hxk hxK hK
          go_wp2_with fail
          refine anyT_begin 14 (fun w' => w'.cell? ⟨S, k, none⟩ = some (.int .i64 xk) ∧ w'.cell? ⟨S, K, none⟩ = some (.int .i64 xK)) 18 #[false, false, false, false, false, false, false, false, false, false, false, false, false, false, false, false, false, false] (by kernel_rfl) rfl rfl ?_
          refine anyT_put 0 61 ?rv133 #[true, false, false, false, false, false, false, false, false, false, false, false, false, false, false, false, false, false] rfl rfl rfl (by kernel_rfl) (by kernel_rfl) (by kernel_rfl) (fun _ _ _ h => h) (by decide) ?ry133 (fun _ => ⟨ck, cK⟩) ?rm133
          case ry133 => first | exact Or.inl ⟨by rfl, by intro w'; go_simp; first | done | rfl⟩
          case rm133 =>
          simp only [Act.put, List.setIfInBounds_toArray, List.set_cons_zero, List.set_cons_succ]
          refine anyT_put 1 62 ?rv134 #[true, true, false, false, false, false, false, false, false, false, false, false, false, false, false, false, false, false] rfl rfl rfl (by kernel_rfl) (by kernel_rfl) (by kernel_rfl) (fun _ _ _ h => h) (by decide) ?ry134 (fun _ => ⟨ck, cK⟩) ?rm134
          case ry134 => first | exact Or.inl ⟨by rfl, by intro w'; go_simp; first | done | rfl⟩
          case rm134 =>
          simp only [Act.put, List.setIfInBounds_toArray, List.set_cons_zero, List.set_cons_succ]
          refine anyT_put 2 63 ?rv135 #[true, true, true, false, false, false, false, false, false, false, false, false, false, false, false, false, false, false] rfl rfl rfl (by kernel_rfl) (by kernel_rfl) (by kernel_rfl) (fun _ _ _ h => h) (by decide) ?ry135 (fun _ => ⟨ck, cK⟩) ?rm135
          case ry135 => first | exact Or.inl ⟨by rfl, by intro w'; go_simp; first | done | rfl⟩
          case rm135 =>
          simp only [Act.put, List.setIfInBounds_toArray, List.set_cons_zero, List.set_cons_succ]
          refine anyT_put 3 64 ?rv136 #[true, true, true, true, false, false, false, false, false, false, false, false, false, false, false, false, false, false] rfl rfl rfl (by kernel_rfl) (by kernel_rfl) (by kernel_rfl) (fun _ _ _ h => h) (by decide) ?ry136 (fun _ => ⟨ck, cK⟩) ?rm136
          case ry136 => first | exact Or.inl ⟨by rfl, by intro w'; go_simp; first | done | rfl⟩
          case rm136 =>
          simp only [Act.put, List.setIfInBounds_toArray, List.set_cons_zero, List.set_cons_succ]
          refine anyT_put 4 65 ?rv137 #[true, true, true, true, true, false, false, false, false, false, false, false, false, false, false, false, false, false] rfl rfl rfl (by kernel_rfl) (by kernel_rfl) (by kernel_rfl) (fun _ _ _ h => h) (by decide) ?ry137 (fun _ => ⟨ck, cK⟩) ?rm137
          case ry137 => first | exact Or.inl ⟨by rfl, by intro w'; go_simp; first | done | rfl⟩
          case rm137 =>
          simp only [Act.put, List.setIfInBounds_toArray, List.set_cons_zero, List.set_cons_succ]
          refine anyT_put 5 66 ?rv138 #[true, true, true, true, true, true, false, false, false, false, false, false, false, false, false, false, false, false] rfl rfl rfl (by kernel_rfl) (by kernel_rfl) (by kernel_rfl) (fun _ _ _ h => h) (by decide) ?ry138 (fun _ => ⟨ck, cK⟩) ?rm138
          case ry138 => first | exact Or.inl ⟨by rfl, by intro w'; go_simp; first | done | rfl⟩
          case rm138 =>
          simp only [Act.put, List.setIfInBounds_toArray, List.set_cons_zero, List.set_cons_succ]
          refine anyT_put 6 67 ?rv139 #[true, true, true, true, true, true, true, false, false, false, false, false, false, false, false, false, false, false] rfl rfl rfl (by kernel_rfl) (by kernel_rfl) (by kernel_rfl) (fun _ _ _ h => h) (by decide) ?ry139 (fun _ => ⟨ck, cK⟩) ?rm139
          case ry139 => first | exact Or.inl ⟨by rfl, by intro w'; go_simp; first | done | rfl⟩
          case rm139 =>
          simp only [Act.put, List.setIfInBounds_toArray, List.set_cons_zero, List.set_cons_succ]
          refine anyT_put 7 68 ?rv140 #[true, true, true, true, true, true, true, true, false, false, false, false, false, false, false, false, false, false] rfl rfl rfl (by kernel_rfl) (by kernel_rfl) (by kernel_rfl) (fun _ _ _ h => h) (by decide) ?ry140 (fun _ => ⟨ck, cK⟩) ?rm140
          case ry140 => first | exact Or.inl ⟨by rfl, by intro w'; go_simp; first | done | rfl⟩
          case rm140 =>
          simp only [Act.put, List.setIfInBounds_toArray, List.set_cons_zero, List.set_cons_succ]
          refine anyT_put 8 69 ?rv141 #[true, true, true, true, true, true, true, true, true, false, false, false, false, false, false, false, false, false] rfl rfl rfl (by kernel_rfl) (by kernel_rfl) (by kernel_rfl) (fun _ _ _ h => h) (by decide) ?ry141 (fun _ => ⟨ck, cK⟩) ?rm141
          case ry141 => first | exact Or.inl ⟨by rfl, by intro w'; go_simp; first | done | rfl⟩
          case rm141 =>
          simp only [Act.put, List.setIfInBounds_toArray, List.set_cons_zero, List.set_cons_succ]
          refine anyT_take 9 70 ?rv142 #[true, true, true, true, true, true, true, true, true, true, false, false, false, false, false, false, false, false] rfl rfl rfl (by kernel_rfl) (by kernel_rfl) (by kernel_rfl) (fun _ _ _ h => h) (by kernel_rfl) (by decide) (by kernel_rfl) ?ry142 (⟨ck, cK⟩) ?rm142
          case ry142 => first | exact Or.inl ⟨by rfl, by intro w' hw'; (try dsimp only at hw'); go_simp; first | done | rfl⟩
          case rm142 =>
          simp only [Act.put, List.setIfInBounds_toArray, List.set_cons_zero, List.set_cons_succ]
          refine anyT_put 10 71 ?rv143 #[true, true, true, true, true, true, true, true, true, true, true, false, false, false, false, false, false, false] rfl rfl rfl (by kernel_rfl) (by kernel_rfl) (by kernel_rfl) (fun _ _ _ h => h) (by decide) ?ry143 (fun _ => ⟨ck, cK⟩) ?rm143
          case ry143 => first | exact Or.inl ⟨by rfl, by intro w'; go_simp; first | done | rfl⟩
          case rm143 =>
          simp only [Act.put, List.setIfInBounds_toArray, List.set_cons_zero, List.set_cons_succ]
          refine anyT_put 11 72 ?rv144 #[true, true, true, true, true, true, true, true, true, true, true, true, false, false, false, false, false, false] rfl rfl rfl (by kernel_rfl) (by kernel_rfl) (by kernel_rfl) (fun _ _ _ h => h) (by decide) ?ry144 (fun _ => ⟨ck, cK⟩) ?rm144
          case ry144 => first | exact Or.inl ⟨by rfl, by intro w'; go_simp; first | done | rfl⟩
          case rm144 =>
          simp only [Act.put, List.setIfInBounds_toArray, List.set_cons_zero, List.set_cons_succ]
          refine anyT_put 12 73 ?rv145 #[true, true, true, true, true, true, true, true, true, true, true, true, true, false, false, false, false, false] rfl rfl rfl (by kernel_rfl) (by kernel_rfl) (by kernel_rfl) (fun _ _ _ h => h) (by decide) ?ry145 (fun _ => ⟨ck, cK⟩) ?rm145
          case ry145 => first | exact Or.inl ⟨by rfl, by intro w'; go_simp; first | done | rfl⟩
          case rm145 =>
          simp only [Act.put, List.setIfInBounds_toArray, List.set_cons_zero, List.set_cons_succ]
          refine anyT_take 13 74 ?rv146 #[true, true, true, true, true, true, true, true, true, true, true, true, true, true, false, false, false, false] rfl rfl rfl (by kernel_rfl) (by kernel_rfl) (by kernel_rfl) (fun _ _ _ h => h) (by kernel_rfl) (by decide) (by kernel_rfl) ?ry146 (⟨ck, cK⟩) ?rm146
          case ry146 => first | exact Or.inl ⟨by rfl, by intro w' hw'; (try dsimp only at hw'); go_simp; first | done | rfl⟩
          case rm146 =>
          simp only [Act.put, List.setIfInBounds_toArray, List.set_cons_zero, List.set_cons_succ]
          refine anyT_one 14 #[true, true, true, true, true, true, true, true, true, true, true, true, true, true, true, false, false, false] (by kernel_rfl) rfl rfl (fun K hK => ?_)
          go_simp
          refine hK.out _ _ (fun h => absurd h (by decide)) ?_
          clear hK K
          refine anyT_one 15 #[true, true, true, true, true, true, true, true, true, true, true, true, true, true, true, true, false, false] (by kernel_rfl) rfl rfl (fun K hK => ?_)
          go_simp
          refine hK.out _ _ (fun h => absurd h (by decide)) ?_
          clear hK K
          refine anyT_one 16 #[true, true, true, true, true, true, true, true, true, true, true, true, true, true, true, true, true, false] (by kernel_rfl) rfl rfl (fun K hK => ?_)
          go_simp
          refine hK.out _ _ (fun h => absurd h (by decide)) ?_
          clear hK K
          refine anyT_one 17 #[true, true, true, true, true, true, true, true, true, true, true, true, true, true, true, true, true, true] (by kernel_rfl) rfl rfl (fun K hK => ?_)
          go_simp
          refine hK.out _ _ (fun h => absurd h (by decide)) ?_
          clear hK K
          refine anyT_done (by kernel_rfl) ?_
          go_wp2_with fail
          have hkk := HK.out
          exact ⟨⟨K, by omega, by omega, by first | rfl | (congr 1; omega), HS2.out, sgrown_set2 HG2.out _ _ _ _⟩, by simp [intOf]; omega⟩
        · have hki2 : ¬ (k : Int) < (i : Int) - 1 := by omega
          have HRk : Hid (wr.rowIs S 3 n (zc (mvL (shL a k) z))) := hrow
          have HGk : Hid (w.grownBy wr (some S)) := hG
          clear hrow hG
          go_wp2_with fail
          go_end0
          refine ⟨⟨_, rfl⟩, _, HRk.out, HGk.out, ⟨_, rfl, shL_fx hk1 (by omega)⟩, ?_⟩
          have hm := HM.out
          have h := ris_shL HT.out.1 HL.out.2 HL.out.1 (a := a) (i := i) (b := b) (by omega) hb2 hb (by rw [← hm]; exact HS.out.1) (fun q h1 h2 => HBs.out.yes q (by omega) h2) (fun q h1 h2 => HBs.out.no q h1 h2)
          rw [show i - 1 = k by omega] at h
          exact h
set_option maxRecDepth 100000 in
set_option maxHeartbeats 4000000 in
theorem sm2_any (S n sc : Nat) (f : Nat) (cs : List Value) (hE : ∀ args w, (callFunc f args).run Try.prog w = .ok (.enter f args) w) (lt : Nat → Nat → Bool) (c : Nat → Nat → Int) (T : Tot lt n) (hcl : ∀ x y, x < n → y < n → y < x → (c x y < 0 ↔ lt x y = true)) (w0 : World) (hC : CmpF f cs n c S w0)
    (a m b : Nat) (z : List Int) (hl : z.length = n) (ho : IsOrd z) (hn : n ≤ 4096) (ha : a + 1 < m) (hm : b = m + 1) (hb : b ≤ n) (hr1 : Ris lt z a m) (hs : Sep z a m b) (w : World) (hw : w0.grownBy w (some S)) (hrow : w.rowIs S 3 n (zc z)) :
    Calls Try.prog 69 #[.slice (some ⟨S, 0, none⟩) n sc, .int .i64 (a : Nat), .int .i64 (m : Nat), .int .i64 (b : Nat), .func (.func f) #[] cs.toArray] w (Sod S n lt a b z w) := by
  have HR : Hid (w.rowIs S 3 n (zc z)) := hrow
  have HL : Hid (z.length = n ∧ IsOrd z) := ⟨hl, ho⟩
  have HT : Hid (Tot lt n ∧ (∀ x y, x < n → y < n → y < x → (c x y < 0 ↔ lt x y = true))) := ⟨T, hcl⟩
  have HC : Hid (CmpF f cs n c S w0) := hC
  have HW0 : Hid (w0.grownBy w (some S)) := hw
  have HS : Hid (Ris lt z a m ∧ Sep z a m b) := ⟨hr1, hs⟩
  have HF : Hid (Fall (Pa2 lt z m) a m) := Pa2_fall T ho hl (by omega) hr1
  have HM : Hid (b = m + 1) := hm
  have hma : ((m : Int) - (a : Int) == 1) = false := by rw [beq_eq_false_iff_ne]; omega
  have hmb2 : (b : Int) - (m : Int) = 1 := by omega
  have hmb : m < b := by omega
  clear hrow hl ho T hcl hC hr1 hs hw hm
  go_enter Try.func69, Try.ntmps69
  go_wp2_with fail
  go_loopw [14, 15] (fun vi vj wr => ∃ i j : Nat, vi = .int .i64 i ∧ vj = .int .i64 j ∧ wr.rowIs S 3 n (zc z) ∧ w.grownBy wr (some S) ∧ Bs (Pa2 lt z m) a m i j) (fun vi vj _ => (intOf vj).toNat - (intOf vi).toNat)
  case atStart => exact ⟨a, m, rfl, rfl, HR.out, World.grownBy.refl _ _, Bs.zero (by omega)⟩
  case round =>
    obtain ⟨i, j, rfl, rfl, hrow, hG, hBs⟩ := hrel
    have hb1 := hBs.l
    have hb2 := hBs.r
    have hb3 := hBs.m
    have HRw : Hid (wr.rowIs S 3 n (zc z)) := hrow
    have HG : Hid (w.grownBy wr (some S)) := hG
    have HBs : Hid (Bs (Pa2 lt z m) a m i j) := hBs
    by_cases hij : i < j
    · obtain ⟨h, hh⟩ : ∃ h : Nat, h = (i + j) / 2 := ⟨_, rfl⟩
      have hih : i ≤ h := by omega
      have hhj : h < j := by omega
      have eh : ((i : Int) + (j : Int)) / 2 = (h : Int) := by omega
      clear hh
      have hhn : h < n := by omega
      have hXn : m < n := by omega
      have hYn : h < n := by omega
      have cX := zc_at hrow HL.out.2 HL.out.1 hXn
      have cY := zc_at hrow HL.out.2 HL.out.1 hYn
      obtain ⟨X, hX⟩ : ∃ X, X = nt z m := ⟨_, rfl⟩
      obtain ⟨Y, hY⟩ : ∃ Y, Y = nt z h := ⟨_, rfl⟩
      rw [← hX] at cX
      rw [← hY] at cY
      have hXl : X < n := by rw [hX]; exact nt_lt HL.out.2 HL.out.1 hXn
      have hYl : Y < n := by rw [hY]; exact nt_lt HL.out.2 HL.out.1 hYn
      have HCL : Hid (c X Y < 0 ↔ lt (nt z m) (nt z h) = true) := by
        rw [← hX, ← hY]
        exact HT.out.2 X Y hXl hYl (by rw [hX, hY]; exact HS.out.2 h m (by omega) (by omega) (Nat.le_refl _) hmb)
      have HCC : Hid (Calls Try.prog f (.int .i64 (X : Nat) :: .int .i64 (Y : Nat) :: cs).toArray wr.drew fun r W' => r = .returned (.int .i64 (c X Y)) ∧ Below wr.drew.heap.size wr.drew W') :=
        HC.out X Y wr.drew hXl hYl (sgrown_t HW0.out (sgrown_t HG.out ⟨rfl, rfl, rfl, Nat.le_refl _, fun _ _ _ => rfl⟩))
      have hSz : S < wr.heap.size := hrow.lt
      clear hrow hG hBs hX hY
      by_cases hc : c X Y < 0
      · have HLL : Hid (Pa2 lt z m h = false) := by show _ = _; unfold Pa2; rw [HCL.out.1 hc]; rfl
        go_wp2_with fail
        refine anyT_begin 9 (fun w' => w'.cell? ⟨S, m, none⟩ = some (.int .i64 (X : Nat)) ∧ w'.cell? ⟨S, h, none⟩ = some (.int .i64 (Y : Nat))) 12 #[false, false, false, false, false, false, false, false, false, false, false, false] (by kernel_rfl) rfl rfl ?_
        refine anyT_put 0 92 ?rv151 #[true, false, false, false, false, false, false, false, false, false, false, false] rfl rfl rfl (by kernel_rfl) (by kernel_rfl) (by kernel_rfl) (fun _ _ _ h => h) (by decide) ?ry151 (fun _ => ⟨cX, cY⟩) ?rm151
        case ry151 => first | exact Or.inl ⟨by rfl, by intro w'; go_simp; first | done | rfl⟩
        case rm151 =>
        simp only [Act.put, List.setIfInBounds_toArray, List.set_cons_zero, List.set_cons_succ]
        refine anyT_put 1 93 ?rv152 #[true, true, false, false, false, false, false, false, false, false, false, false] rfl rfl rfl (by kernel_rfl) (by kernel_rfl) (by kernel_rfl) (fun _ _ _ h => h) (by decide) ?ry152 (fun _ => ⟨cX, cY⟩) ?rm152
        case ry152 => first | exact Or.inl ⟨by rfl, by intro w'; go_simp; first | done | rfl⟩
        case rm152 =>
        simp only [Act.put, List.setIfInBounds_toArray, List.set_cons_zero, List.set_cons_succ]
        refine anyT_put 2 94 ?rv153 #[true, true, true, false, false, false, false, false, false, false, false, false] rfl rfl rfl (by kernel_rfl) (by kernel_rfl) (by kernel_rfl) (fun _ _ _ h => h) (by decide) ?ry153 (fun _ => ⟨cX, cY⟩) ?rm153
        case ry153 => first | exact Or.inl ⟨by rfl, by intro w'; go_simp; first | done | rfl⟩
        case rm153 =>
        simp only [Act.put, List.setIfInBounds_toArray, List.set_cons_zero, List.set_cons_succ]
        refine anyT_put 3 95 ?rv154 #[true, true, true, true, false, false, false, false, false, false, false, false] rfl rfl rfl (by kernel_rfl) (by kernel_rfl) (by kernel_rfl) (fun _ _ _ h => h) (by decide) ?ry154 (fun _ => ⟨cX, cY⟩) ?rm154
        case ry154 => first | exact Or.inl ⟨by rfl, by intro w'; go_simp; first | done | rfl⟩
        case rm154 =>
        simp only [Act.put, List.setIfInBounds_toArray, List.set_cons_zero, List.set_cons_succ]
        refine anyT_take 4 96 ?rv155 #[true, true, true, true, true, false, false, false, false, false, false, false] rfl rfl rfl (by kernel_rfl) (by kernel_rfl) (by kernel_rfl) (fun _ _ _ h => h) (by kernel_rfl) (by decide) (by kernel_rfl) ?ry155 (⟨cX, cY⟩) ?rm155
        case ry155 => first | exact Or.inl ⟨by rfl, by intro w' hw'; (try dsimp only at hw'); go_simp; first | done | rfl⟩
        case rm155 =>
        simp only [Act.put, List.setIfInBounds_toArray, List.set_cons_zero, List.set_cons_succ]
        refine anyT_put 5 97 ?rv156 #[true, true, true, true, true, true, false, false, false, false, false, false] rfl rfl rfl (by kernel_rfl) (by kernel_rfl) (by kernel_rfl) (fun _ _ _ h => h) (by decide) ?ry156 (fun _ => ⟨cX, cY⟩) ?rm156
        case ry156 => first | exact Or.inl ⟨by rfl, by intro w'; go_simp; first | done | rfl⟩
        case rm156 =>
        simp only [Act.put, List.setIfInBounds_toArray, List.set_cons_zero, List.set_cons_succ]
        refine anyT_put 6 98 ?rv157 #[true, true, true, true, true, true, true, false, false, false, false, false] rfl rfl rfl (by kernel_rfl) (by kernel_rfl) (by kernel_rfl) (fun _ _ _ h => h) (by decide) ?ry157 (fun _ => ⟨cX, cY⟩) ?rm157
        case ry157 => first | exact Or.inl ⟨by rfl, by intro w'; go_simp; first | done | rfl⟩
        case rm157 =>
        simp only [Act.put, List.setIfInBounds_toArray, List.set_cons_zero, List.set_cons_succ]
        refine anyT_put 7 99 ?rv158 #[true, true, true, true, true, true, true, true, false, false, false, false] rfl rfl rfl (by kernel_rfl) (by kernel_rfl) (by kernel_rfl) (fun _ _ _ h => h) (by decide) ?ry158 (fun _ => ⟨cX, cY⟩) ?rm158
        case ry158 => first | exact Or.inl ⟨by rfl, by intro w'; go_simp; first | done | rfl⟩
        case rm158 =>
        simp only [Act.put, List.setIfInBounds_toArray, List.set_cons_zero, List.set_cons_succ]
        refine anyT_take 8 100 ?rv159 #[true, true, true, true, true, true, true, true, true, false, false, false] rfl rfl rfl (by kernel_rfl) (by kernel_rfl) (by kernel_rfl) (fun _ _ _ h => h) (by kernel_rfl) (by decide) (by kernel_rfl) ?ry159 (⟨cX, cY⟩) ?rm159
        case ry159 => first | exact Or.inl ⟨by rfl, by intro w' hw'; (try dsimp only at hw'); go_simp; first | done | rfl⟩
        case rm159 =>
        simp only [Act.put, List.setIfInBounds_toArray, List.set_cons_zero, List.set_cons_succ]
        refine anyT_one 9 #[true, true, true, true, true, true, true, true, true, true, false, false] (by kernel_rfl) rfl rfl (fun K hK => ?_)
        go_simp
        go_wp2_with fail
        refine HCC.out.mono ?_
        rintro e v1 ⟨rfl, hB1⟩
        refine hK.out _ _ (fun h => absurd h (by decide)) ?_
        clear hK K
        refine anyT_one 10 #[true, true, true, true, true, true, true, true, true, true, true, false] (by kernel_rfl) rfl rfl (fun K hK => ?_)
        go_simp
        refine hK.out _ _ (fun h => absurd h (by decide)) ?_
        clear hK K
        refine anyT_one 11 #[true, true, true, true, true, true, true, true, true, true, true, true] (by kernel_rfl) rfl rfl (fun K hK => ?_)
        go_simp
        refine hK.out _ _ (fun h => absurd h (by decide)) ?_
        clear hK K
        refine anyT_done (by kernel_rfl) ?_
        have HR1 : Hid (v1.rowIs S 3 n (zc z)) := HRw.out.of_block (hB1.block S hSz)
        have HG1 : Hid (w.grownBy v1 (some S)) := sgrown_bel (w := wr) HG.out ((Below.refl _ wr).drew.trans hB1)
        clear hB1 cX cY
        go_wp2_with fail
        exact ⟨⟨i, h, rfl, rfl, HR1.out, HG1.out, HBs.out.down HF.out hih hhj HLL.out⟩, by simp [intOf]; omega⟩
      · have HLL : Hid (Pa2 lt z m h = true) := by show _ = _; unfold Pa2; rw [Bool.not_eq_true']; exact Bool.eq_false_iff.2 (fun q => hc (HCL.out.2 q))
        have hcb : decide (c X Y < 0) = false := decide_eq_false hc
        go_wp2_with fail
        refine anyT_begin 9 (fun w' => w'.cell? ⟨S, m, none⟩ = some (.int .i64 (X : Nat)) ∧ w'.cell? ⟨S, h, none⟩ = some (.int .i64 (Y : Nat))) 12 #[false, false, false, false, false, false, false, false, false, false, false, false] (by kernel_rfl) rfl rfl ?_
        refine anyT_put 0 92 ?rv163 #[true, false, false, false, false, false, false, false, false, false, false, false] rfl rfl rfl (by kernel_rfl) (by kernel_rfl) (by kernel_rfl) (fun _ _ _ h => h) (by decide) ?ry163 (fun _ => ⟨cX, cY⟩) ?rm163
        case ry163 => first | exact Or.inl ⟨by rfl, by intro w'; go_simp; first | done | rfl⟩
        case rm163 =>
        simp only [Act.put, List.setIfInBounds_toArray, List.set_cons_zero, List.set_cons_succ]
        refine anyT_put 1 93 ?rv164 #[true, true, false, false, false, false, false, false, false, false, false, false] rfl rfl rfl (by kernel_rfl) (by kernel_rfl) (by kernel_rfl) (fun _ _ _ h => h) (by decide) ?ry164 (fun _ => ⟨cX, cY⟩) ?rm164
        case ry164 => first | exact Or.inl ⟨by rfl, by intro w'; go_simp; first | done | rfl⟩
        case rm164 =>
        simp only [Act.put, List.setIfInBounds_toArray, List.set_cons_zero, List.set_cons_succ]
        refine anyT_put 2 94 ?rv165 #[true, true, true, false, false, false, false, false, false, false, false, false] rfl rfl rfl (by kernel_rfl) (by kernel_rfl) (by kernel_rfl) (fun _ _ _ h => h) (by decide) ?ry165 (fun _ => ⟨cX, cY⟩) ?rm165
        case ry165 => first | exact Or.inl ⟨by rfl, by intro w'; go_simp; first | done | rfl⟩
        case rm165 =>
        simp only [Act.put, List.setIfInBounds_toArray, List.set_cons_zero, List.set_cons_succ]
        refine anyT_put 3 95 ?rv166 #[true, true, true, true, false, false, false, false, false, false, false, false] rfl rfl rfl (by kernel_rfl) (by kernel_rfl) (by kernel_rfl) (fun _ _ _ h => h) (by decide) ?ry166 (fun _ => ⟨cX, cY⟩) ?rm166
        case ry166 => first | exact Or.inl ⟨by rfl, by intro w'; go_simp; first | done | rfl⟩
        case rm166 =>
        simp only [Act.put, List.setIfInBounds_toArray, List.set_cons_zero, List.set_cons_succ]
        refine anyT_take 4 96 ?rv167 #[true, true, true, true, true, false, false, false, false, false, false, false] rfl rfl rfl (by kernel_rfl) (by kernel_rfl) (by kernel_rfl) (fun _ _ _ h => h) (by kernel_rfl) (by decide) (by kernel_rfl) ?ry167 (⟨cX, cY⟩) ?rm167
        case ry167 => first | exact Or.inl ⟨by rfl, by intro w' hw'; (try dsimp only at hw'); go_simp; first | done | rfl⟩
        case rm167 =>
        simp only [Act.put, List.setIfInBounds_toArray, List.set_cons_zero, List.set_cons_succ]
        refine anyT_put 5 97 ?rv168 #[true, true, true, true, true, true, false, false, false, false, false, false] rfl rfl rfl (by kernel_rfl) (by kernel_rfl) (by kernel_rfl) (fun _ _ _ h => h) (by decide) ?ry168 (fun _ => ⟨cX, cY⟩) ?rm168
        case ry168 => first | exact Or.inl ⟨by rfl, by intro w'; go_simp; first | done | rfl⟩
        case rm168 =>
        simp only [Act.put, List.setIfInBounds_toArray, List.set_cons_zero, List.set_cons_succ]
        refine anyT_put 6 98 ?rv169 #[true, true, true, true, true, true, true, false, false, false, false, false] rfl rfl rfl (by kernel_rfl) (by kernel_rfl) (by kernel_rfl) (fun _ _ _ h => h) (by decide) ?ry169 (fun _ => ⟨cX, cY⟩) ?rm169
        case ry169 => first | exact Or.inl ⟨by rfl, by intro w'; go_simp; first | done | rfl⟩
        case rm169 =>
        simp only [Act.put, List.setIfInBounds_toArray, List.set_cons_zero, List.set_cons_succ]
        refine anyT_put 7 99 ?rv170 #[true, true, true, true, true, true, true, true, false, false, false, false] rfl rfl rfl (by kernel_rfl) (by kernel_rfl) (by kernel_rfl) (fun _ _ _ h => h) (by decide) ?ry170 (fun _ => ⟨cX, cY⟩) ?rm170
        case ry170 => first | exact Or.inl ⟨by rfl, by intro w'; go_simp; first | done | rfl⟩
        case rm170 =>
        simp only [Act.put, List.setIfInBounds_toArray, List.set_cons_zero, List.set_cons_succ]
        refine anyT_take 8 100 ?rv171 #[true, true, true, true, true, true, true, true, true, false, false, false] rfl rfl rfl (by kernel_rfl) (by kernel_rfl) (by kernel_rfl) (fun _ _ _ h => h) (by kernel_rfl) (by decide) (by kernel_rfl) ?ry171 (⟨cX, cY⟩) ?rm171
        case ry171 => first | exact Or.inl ⟨by rfl, by intro w' hw'; (try dsimp only at hw'); go_simp; first | done | rfl⟩
        case rm171 =>
        simp only [Act.put, List.setIfInBounds_toArray, List.set_cons_zero, List.set_cons_succ]
        refine anyT_one 9 #[true, true, true, true, true, true, true, true, true, true, false, false] (by kernel_rfl) rfl rfl (fun K hK => ?_)
        go_simp
        go_wp2_with fail
        refine HCC.out.mono ?_
        rintro e v1 ⟨rfl, hB1⟩
        refine hK.out _ _ (fun h => absurd h (by decide)) ?_
        clear hK K
        refine anyT_one 10 #[true, true, true, true, true, true, true, true, true, true, true, false] (by kernel_rfl) rfl rfl (fun K hK => ?_)
        go_simp
        refine hK.out _ _ (fun h => absurd h (by decide)) ?_
        clear hK K
        refine anyT_one 11 #[true, true, true, true, true, true, true, true, true, true, true, true] (by kernel_rfl) rfl rfl (fun K hK => ?_)
        go_simp
        refine hK.out _ _ (fun h => absurd h (by decide)) ?_
        clear hK K
        refine anyT_done (by kernel_rfl) ?_
        have HR1 : Hid (v1.rowIs S 3 n (zc z)) := HRw.out.of_block (hB1.block S hSz)
        have HG1 : Hid (w.grownBy v1 (some S)) := sgrown_bel (w := wr) HG.out ((Below.refl _ wr).drew.trans hB1)
        clear hB1 cX cY
        go_wp2_with fail
        exact ⟨⟨h + 1, j, by go_num, rfl, HR1.out, HG1.out, HBs.out.up HF.out hih hhj HLL.out⟩, by simp [intOf]; omega⟩
    · obtain rfl : i = j := by omega
      clear hrow hG hBs
      go_wp2_with fail
      go_loopw [17] (fun vk wr => ∃ k : Nat, i ≤ k ∧ k ≤ m ∧ vk = .int .i64 k ∧ wr.rowIs S 3 n (zc (mvL (shR k m) z)) ∧ w.grownBy wr (some S)) (fun vk _ => (intOf vk).toNat)
      case atStart => exact ⟨m, hb2, Nat.le_refl _, rfl, by rw [shR_zero]; exact HRw.out, HG.out⟩
      case round =>
        obtain ⟨k, hk1, hk2, rfl, hrow, hG⟩ := hrel
        by_cases hki : i < k
        · have hL2 : (mvL (shR k m) z).length = n := by rw [mvL_length]; exact HL.out.1
          obtain ⟨K, hK⟩ : ∃ K : Nat, k = K + 1 := ⟨k - 1, by omega⟩
          have hkn : k < n := by omega
          have hKn : K < n := by omega
          have hkK : k ≠ K := by omega
          have ck := hrow.cell hkn
          have cK := hrow.cell hKn
          have fk := hrow.frozen k
          have fK := hrow.frozen K
          unfold zc at ck cK
          have HS2 : Hid (((wr.setCell ⟨S, k, none⟩ (.int .i64 (nth (mvL (shR k m) z) K))).setCell ⟨S, K, none⟩ (.int .i64 (nth (mvL (shR k m) z) k))).rowIs S 3 n (zc (mvL (shR K m) z))) := by
            refine zc_swap2 hrow hL2 hkn hKn rfl rfl ?_
            have h := shR_step (z := z) (j := k) (i := m) (by omega) hk2 (by rw [HL.out.1]; omega); rw [show k - 1 = K by omega] at h; exact h
          obtain ⟨xk, hxk⟩ : ∃ x, x = nth (mvL (shR k m) z) k := ⟨_, rfl⟩
          obtain ⟨xK, hxK⟩ : ∃ x, x = nth (mvL (shR k m) z) K := ⟨_, rfl⟩
          rw [← hxk] at ck
          rw [← hxK] at cK
          rw [← hxk, ← hxK] at HS2
          have w1 : IntKind.i64.wrap ((k : Int) - 1) = (K : Int) := by rw [wr_sm (by omega)]; omega
          have HK : Hid (k = K + 1) := hK
          have HG2 : Hid (w.grownBy wr (some S)) := hG
          clear hrow hG hL2 hxk hxK hK
          go_wp2_with fail
          refine anyT_begin 14 (fun w' => w'.cell? ⟨S, k, none⟩ = some (.int .i64 xk) ∧ w'.cell? ⟨S, K, none⟩ = some (.int .i64 xK)) 18 #[false, false, false, false, false, false, false, false, false, false, false, false, false, false, false, false, false, false] (by kernel_rfl) rfl rfl ?_
          refine anyT_put 0 113 ?rv175 #[true, false, false, false, false, false, false, false, false, false, false, false, false, false, false, false, false, false] rfl rfl rfl (by kernel_rfl) (by kernel_rfl) (by kernel_rfl) (fun _ _ _ h => h) (by decide) ?ry175 (fun _ => ⟨ck, cK⟩) ?rm175
          case ry175 => first | exact Or.inl ⟨by rfl, by intro w'; go_simp; first | done | rfl⟩
          case rm175 =>
          simp only [Act.put, List.setIfInBounds_toArray, List.set_cons_zero, List.set_cons_succ]
          refine anyT_put 1 114 ?rv176 #[true, true, false, false, false, false, false, false, false, false, false, false, false, false, false, false, false, false] rfl rfl rfl (by kernel_rfl) (by kernel_rfl) (by kernel_rfl) (fun _ _ _ h => h) (by decide) ?ry176 (fun _ => ⟨ck, cK⟩) ?rm176
          case ry176 => first | exact Or.inl ⟨by rfl, by intro w'; go_simp; first | done | rfl⟩
          case rm176 =>
          simp only [Act.put, List.setIfInBounds_toArray, List.set_cons_zero, List.set_cons_succ]
          refine anyT_put 2 115 ?rv177 #[true, true, true, false, false, false, false, false, false, false, false, false, false, false, false, false, false, false] rfl rfl rfl (by kernel_rfl) (by kernel_rfl) (by kernel_rfl) (fun _ _ _ h => h) (by decide) ?ry177 (fun _ => ⟨ck, cK⟩) ?rm177
          case ry177 => first | exact Or.inl ⟨by rfl, by intro w'; go_simp; first | done | rfl⟩
          case rm177 =>
          simp only [Act.put, List.setIfInBounds_toArray, List.set_cons_zero, List.set_cons_succ]
          refine anyT_put 3 116 ?rv178 #[true, true, true, true, false, false, false, false, false, false, false, false, false, false, false, false, false, false] rfl rfl rfl (by kernel_rfl) (by kernel_rfl) (by kernel_rfl) (fun _ _ _ h => h) (by decide) ?ry178 (fun _ => ⟨ck, cK⟩) ?rm178
          case ry178 => first | exact Or.inl ⟨by rfl, by intro w'; go_simp; first | done | rfl⟩
          case rm178 =>
          simp only [Act.put, List.setIfInBounds_toArray, List.set_cons_zero, List.set_cons_succ]
          refine anyT_put 4 117 ?rv179 #[true, true, true, true, true, false, false, false, false, false, false, false, false, false, false, false, false, false] rfl rfl rfl (by kernel_rfl) (by kernel_rfl) (by kernel_rfl) (fun _ _ _ h => h) (by decide) ?ry179 (fun _ => ⟨ck, cK⟩) ?rm179
          case ry179 => first | exact Or.inl ⟨by rfl, by intro w'; go_simp; first | done | rfl⟩
          case rm179 =>
          simp only [Act.put, List.setIfInBounds_toArray, List.set_cons_zero, List.set_cons_succ]
          refine anyT_put 5 118 ?rv180 #[true, true, true, true, true, true, false, false, false, false, false, false, false, false, false, false, false, false] rfl rfl rfl (by kernel_rfl) (by kernel_rfl) (by kernel_rfl) (fun _ _ _ h => h) (by decide) ?ry180 (fun _ => ⟨ck, cK⟩) ?rm180
          case ry180 => first | exact Or.inl ⟨by rfl, by intro w'; go_simp; first | done | rfl⟩
          case rm180 =>
          simp only [Act.put, List.setIfInBounds_toArray, List.set_cons_zero, List.set_cons_succ]
          refine anyT_put 6 119 ?rv181 #[true, true, true, true, true, true, true, false, false, false, false, false, false, false, false, false, false, false] rfl rfl rfl (by kernel_rfl) (by kernel_rfl) (by kernel_rfl) (fun _ _ _ h => h) (by decide) ?ry181 (fun _ => ⟨ck, cK⟩) ?rm181
          case ry181 => first | exact Or.inl ⟨by rfl, by intro w'; go_simp; first | done | rfl⟩
          case rm181 =>
          simp only [Act.put, List.setIfInBounds_toArray, List.set_cons_zero, List.set_cons_succ]
          refine anyT_put 7 120 ?rv182 #[true, true, true, true, true, true, true, true, false, false, false, false, false, false, false, false, false, false] rfl rfl rfl (by kernel_rfl) (by kernel_rfl) (by kernel_rfl) (fun _ _ _ h => h) (by decide) ?ry182 (fun _ => ⟨ck, cK⟩) ?rm182
          case ry182 => first | exact Or.inl ⟨by rfl, by intro w'; go_simp; first | done | rfl⟩
          case rm182 =>
          simp only [Act.put, List.setIfInBounds_toArray, List.set_cons_zero, List.set_cons_succ]
          refine anyT_put 8 121 ?rv183 #[true, true, true, true, true, true, true, true, true, false, false, false, false, false, false, false, false, false] rfl rfl rfl (by kernel_rfl) (by kernel_rfl) (by kernel_rfl) (fun _ _ _ h => h) (by decide) ?ry183 (fun _ => ⟨ck, cK⟩) ?rm183
          case ry183 => first | exact Or.inl ⟨by rfl, by intro w'; go_simp; first | done | rfl⟩
          case rm183 =>
          simp only [Act.put, List.setIfInBounds_toArray, List.set_cons_zero, List.set_cons_succ]
          refine anyT_take 9 122 ?rv184 #[true, true, true, true, true, true, true, true, true, true, false, false, false, false, false, false, false, false] rfl rfl rfl (by kernel_rfl) (by kernel_rfl) (by kernel_rfl) (fun _ _ _ h => h) (by kernel_rfl) (by decide) (by kernel_rfl) ?ry184 (⟨ck, cK⟩) ?rm184
          case ry184 => first | exact Or.inl ⟨by rfl, by intro w' hw'; (try dsimp only at hw'); go_simp; first | done | rfl⟩
          case rm184 =>
          simp only [Act.put, List.setIfInBounds_toArray, List.set_cons_zero, List.set_cons_succ]
          refine anyT_put 10 123 ?rv185 #[true, true, true, true, true, true, true, true, true, true, true, false, false, false, false, false, false, false] rfl rfl rfl (by kernel_rfl) (by kernel_rfl) (by kernel_rfl) (fun _ _ _ h => h) (by decide) ?ry185 (fun _ => ⟨ck, cK⟩) ?rm185
          case ry185 => first | exact Or.inl ⟨by rfl, by intro w'; go_simp; first | done | rfl⟩
          case rm185 =>
          simp only [Act.put, List.setIfInBounds_toArray, List.set_cons_zero, List.set_cons_succ]
          refine anyT_put 11 124 ?rv186 #[true, true, true, true, true, true, true, true, true, true, true, true, false, false, false, false, false, false] rfl rfl rfl (by kernel_rfl) (by kernel_rfl) (by kernel_rfl) (fun _ _ _ h => h) (by decide) ?ry186 (fun _ => ⟨ck, cK⟩) ?rm186
          case ry186 => first | exact Or.inl ⟨by rfl, by intro w'; go_simp; first | done | rfl⟩
          case rm186 =>
          simp only [Act.put, List.setIfInBounds_toArray, List.set_cons_zero, List.set_cons_succ]
          refine anyT_put 12 125 ?rv187 #[true, true, true, true, true, true, true, true, true, true, true, true, true, false, false, false, false, false] rfl rfl rfl (by kernel_rfl) (by kernel_rfl) (by kernel_rfl) (fun _ _ _ h => h) (by decide) ?ry187 (fun _ => ⟨ck, cK⟩) ?rm187
          case ry187 => first | exact Or.inl ⟨by rfl, by intro w'; go_simp; first | done | rfl⟩
          case rm187 =>
          simp only [Act.put, List.setIfInBounds_toArray, List.set_cons_zero, List.set_cons_succ]
          refine anyT_take 13 126 ?rv188 #[true, true, true, true, true, true, true, true, true, true, true, true, true, true, false, false, false, false] rfl rfl rfl (by kernel_rfl) (by kernel_rfl) (by kernel_rfl) (fun _ _ _ h => h) (by kernel_rfl) (by decide) (by kernel_rfl) ?ry188 (⟨ck, cK⟩) ?rm188
          case ry188 => first | exact Or.inl ⟨by rfl, by intro w' hw'; (try dsimp only at hw'); go_simp; first | done | rfl⟩
          case rm188 =>
          simp only [Act.put, List.setIfInBounds_toArray, List.set_cons_zero, List.set_cons_succ]
          refine anyT_one 14 #[true, true, true, true, true, true, true, true, true, true, true, true, true, true, true, false, false, false] (by kernel_rfl) rfl rfl (fun K hK => ?_)
          go_simp
          refine hK.out _ _ (fun h => absurd h (by decide)) ?_
          clear hK K
          refine anyT_one 15 #[true, true, true, true, true, true, true, true, true, true, true, true, true, true, true, true, false, false] (by kernel_rfl) rfl rfl (fun K hK => ?_)
          go_simp
          refine hK.out _ _ (fun h => absurd h (by decide)) ?_
          clear hK K
          refine anyT_one 16 #[true, true, true, true, true, true, true, true, true, true, true, true, true, true, true, true, true, false] (by kernel_rfl) rfl rfl (fun K hK => ?_)
          go_simp
          refine hK.out _ _ (fun h => absurd h (by decide)) ?_
          clear hK K
          refine anyT_one 17 #[true, true, true, true, true, true, true, true, true, true, true, true, true, true, true, true, true, true] (by kernel_rfl) rfl rfl (fun K hK => ?_)
          go_simp
          refine hK.out _ _ (fun h => absurd h (by decide)) ?_
          clear hK K
          refine anyT_done (by kernel_rfl) ?_
          go_wp2_with fail
          have hkk := HK.out
          exact ⟨⟨K, by omega, by omega, by first | rfl | (congr 1; omega), HS2.out, sgrown_set2 HG2.out _ _ _ _⟩, by simp [intOf]; omega⟩
        · obtain rfl : k = i := by omega
          have HRk : Hid (wr.rowIs S 3 n (zc (mvL (shR k m) z))) := hrow
          have HGk : Hid (w.grownBy wr (some S)) := hG
          clear hrow hG
          go_wp2_with fail
          go_end0
          refine ⟨⟨_, rfl⟩, _, HRk.out, HGk.out, ⟨_, rfl, shR_fx hb1 hk2 (by omega)⟩, ?_⟩
          have hm := HM.out
          rw [hm]
          refine ris_shR HT.out.1 HL.out.2 HL.out.1 hb1 hk2 (by omega) HS.out.1 (fun q h1 h2 => ?_) ?_
          · have h := HBs.out.no q h1 h2
            unfold Pa2 at h
            rw [Bool.not_eq_false'] at h
            exact h
          · by_cases e : k = a
            · exact .inl e
            · right
              have h := HBs.out.yes (k - 1) (by omega) (by omega)
              unfold Pa2 at h
              rw [Bool.not_eq_true'] at h
              exact (tot_not HT.out.1 HL.out.2 HL.out.1 (by omega) (by omega) (by omega)).1 h
end Go.Proofs.Yteddkfeiikdekaa
