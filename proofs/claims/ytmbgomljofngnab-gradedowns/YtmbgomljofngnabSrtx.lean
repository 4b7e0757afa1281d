/-
  The library's merge in place, of numbers, where one of the two runs is one number.
-/
import Derived.Test.YtmbgomljofngnabSrti
namespace Go.Proofs.Ytmbgomljofngnab
open Go.RowKit
set_option linter.unusedVariables false

set_option maxRecDepth 100000 in
set_option maxHeartbeats 4000000 in
theorem sm1_any (S n sc : Nat) (f : Nat) (cs : List Value) (hE : ∀ args w, (callFunc f args).run Try.prog w = .ok (.enter f args) w) (lt : Nat → Nat → Bool) (c : Nat → Nat → Int) (T : Tot lt n) (hcl : ∀ x y, x < n → y < n → y < x → (c x y < 0 ↔ lt x y = true)) (w0 : World) (hC : CmpF f cs n c S w0)
    (a m b : Nat) (z : List Int) (hl : z.length = n) (ho : IsOrd z) (hn : n ≤ 4096) (hm : m = a + 1) (hmb : m < b) (hb : b ≤ n) (hr2 : Ris lt z m b) (hs : Sep z a m b) (w : World) (hw : w0.grownBy w (some S)) (hrow : w.rowIs S 3 n (zc z)) :
    Calls Try.prog 83 #[.slice (some ⟨S, 0, none⟩) n sc, .int .i64 (a : Nat), .int .i64 (m : Nat), .int .i64 (b : Nat), .func (.func f) #[] cs.toArray] w (Sod S n lt a b z w) := by
  have HR : Hid (w.rowIs S 3 n (zc z)) := hrow
  have HL : Hid (z.length = n ∧ IsOrd z) := ⟨hl, ho⟩
  have HT : Hid (Tot lt n ∧ (∀ x y, x < n → y < n → y < x → (c x y < 0 ↔ lt x y = true))) := ⟨T, hcl⟩
  have HC : Hid (CmpF f cs n c S w0) := hC
  have HW0 : Hid (w0.grownBy w (some S)) := hw
  have HS : Hid (Ris lt z m b ∧ Sep z a m b) := ⟨hr2, hs⟩
  have HF : Hid (Fall (Pa1 lt z a) m b) := Pa1_fall T ho hl (by omega) hb hr2
  have HM : Hid (m = a + 1) := hm
  have hma : IntKind.i64.wrap ((m : Int) - (a : Int)) = 1 := by rw [wr_sm (by omega)]; omega
  have hma2 : (m : Int) - (a : Int) = 1 := by omega
  have ham : a < m := by omega
  clear hrow hl ho T hcl hC hr2 hs hw hm
  go_enter Try.func83, Try.ntmps83
  go_wp2_with fail
  go_loopw [10, 11] (fun vi vj wr => ∃ i j : Nat, vi = .int .i64 i ∧ vj = .int .i64 j ∧ wr.rowIs S 3 n (zc z) ∧ w.grownBy wr (some S) ∧ Bs (Pa1 lt z a) m b i j) (fun vi vj _ => (intOf vj).toNat - (intOf vi).toNat)
  case atStart => exact ⟨m, b, rfl, rfl, HR.out, World.grownBy.refl _ _, Bs.zero (by omega)⟩
  case round =>
    obtain ⟨i, j, rfl, rfl, hrow, hG, hBs⟩ := hrel
    have hb1 := hBs.l
    have hb2 := hBs.r
    have hb3 := hBs.m
    have HRw : Hid (wr.rowIs S 3 n (zc z)) := hrow
    have HG : Hid (w.grownBy wr (some S)) := hG
    have HBs : Hid (Bs (Pa1 lt z a) m b i j) := hBs
    by_cases hij : i < j
    · obtain ⟨h, hh⟩ : ∃ h : Nat, h = (i + j) / 2 := ⟨_, rfl⟩
      have hih : i ≤ h := by omega
      have hhj : h < j := by omega
      have eh : ((i : Int) + (j : Int)) / 2 = (h : Int) := by omega
      clear hh
      have hhn : h < n := by omega
      have hXn : h < n := by omega
      have hYn : a < n := by omega
      have cX := zc_at hrow HL.out.2 HL.out.1 hXn
      have cY := zc_at hrow HL.out.2 HL.out.1 hYn
      obtain ⟨X, hX⟩ : ∃ X, X = nt z h := ⟨_, rfl⟩
      obtain ⟨Y, hY⟩ : ∃ Y, Y = nt z a := ⟨_, rfl⟩
      rw [← hX] at cX
      rw [← hY] at cY
      have hXl : X < n := by rw [hX]; exact nt_lt HL.out.2 HL.out.1 hXn
      have hYl : Y < n := by rw [hY]; exact nt_lt HL.out.2 HL.out.1 hYn
      have HCL : Hid (c X Y < 0 ↔ lt (nt z h) (nt z a) = true) := by
        rw [← hX, ← hY]
        exact HT.out.2 X Y hXl hYl (by rw [hX, hY]; exact HS.out.2 a h (Nat.le_refl _) ham (by omega) (by omega))
      have HCC : Hid (Calls Try.prog f (.int .i64 (X : Nat) :: .int .i64 (Y : Nat) :: cs).toArray wr.drew fun r W' => r = .returned (.int .i64 (c X Y)) ∧ Below wr.drew.heap.size wr.drew W') :=
        HC.out X Y wr.drew hXl hYl (sgrown_t HW0.out (sgrown_t HG.out ⟨rfl, rfl, rfl, Nat.le_refl _, fun _ _ _ => rfl⟩))
      have hSz : S < wr.heap.size := hrow.lt
      clear hrow hG hBs hX hY
      by_cases hc : c X Y < 0
      · have HLL : Hid (Pa1 lt z a h = true) := by show _ = _; exact HCL.out.1 hc
        go_wp2_with fail
        refine anyT_begin 9 (fun w' => w'.cell? ⟨S, h, none⟩ = some (.int .i64 (X : Nat)) ∧ w'.cell? ⟨S, a, none⟩ = some (.int .i64 (Y : Nat))) 11 #[false, false, false, false, false, false, false, false, false, false, false] (by kernel_rfl) rfl rfl ?_
        refine anyT_put 0 40 ?rv103 #[true, false, false, false, false, false, false, false, false, false, false] rfl rfl rfl (by kernel_rfl) (by kernel_rfl) (by kernel_rfl) (fun _ _ _ h => h) (by decide) ?ry103 (fun _ => ⟨cX, cY⟩) ?rm103
        case ry103 => first | exact Or.inl ⟨by rfl, by intro w'; go_simp; first | done | rfl⟩
        case rm103 =>
        simp only [Act.put, List.setIfInBounds_toArray, List.set_cons_zero, List.set_cons_succ]
        refine anyT_put 1 41 ?rv104 #[true, true, false, false, false, false, false, false, false, false, false] rfl rfl rfl (by kernel_rfl) (by kernel_rfl) (by kernel_rfl) (fun _ _ _ h => h) (by decide) ?ry104 (fun _ => ⟨cX, cY⟩) ?rm104
        case ry104 => first | exact Or.inl ⟨by rfl, by intro w'; go_simp; first | done | rfl⟩
        case rm104 =>
        simp only [Act.put, List.setIfInBounds_toArray, List.set_cons_zero, List.set_cons_succ]
        refine anyT_put 2 42 ?rv105 #[true, true, true, false, false, false, false, false, false, false, false] rfl rfl rfl (by kernel_rfl) (by kernel_rfl) (by kernel_rfl) (fun _ _ _ h => h) (by decide) ?ry105 (fun _ => ⟨cX, cY⟩) ?rm105
        case ry105 => first | exact Or.inl ⟨by rfl, by intro w'; go_simp; first | done | rfl⟩
        case rm105 =>
        simp only [Act.put, List.setIfInBounds_toArray, List.set_cons_zero, List.set_cons_succ]
        refine anyT_put 3 43 ?rv106 #[true, true, true, true, false, false, false, false, false, false, false] rfl rfl rfl (by kernel_rfl) (by kernel_rfl) (by kernel_rfl) (fun _ _ _ h => h) (by decide) ?ry106 (fun _ => ⟨cX, cY⟩) ?rm106
        case ry106 => first | exact Or.inl ⟨by rfl, by intro w'; go_simp; first | done | rfl⟩
        case rm106 =>
        simp only [Act.put, List.setIfInBounds_toArray, List.set_cons_zero, List.set_cons_succ]
        refine anyT_take 4 44 ?rv107 #[true, true, true, true, true, false, false, false, false, false, false] rfl rfl rfl (by kernel_rfl) (by kernel_rfl) (by kernel_rfl) (fun _ _ _ h => h) (by kernel_rfl) (by decide) (by kernel_rfl) ?ry107 (⟨cX, cY⟩) ?rm107
        case ry107 => first | exact Or.inl ⟨by rfl, by intro w' hw'; (try dsimp only at hw'); go_simp; first | done | rfl⟩
        case rm107 =>
        simp only [Act.put, List.setIfInBounds_toArray, List.set_cons_zero, List.set_cons_succ]
        refine anyT_put 5 45 ?rv108 #[true, true, true, true, true, true, false, false, false, false, false] rfl rfl rfl (by kernel_rfl) (by kernel_rfl) (by kernel_rfl) (fun _ _ _ h => h) (by decide) ?ry108 (fun _ => ⟨cX, cY⟩) ?rm108
        case ry108 => first | exact Or.inl ⟨by rfl, by intro w'; go_simp; first | done | rfl⟩
        case rm108 =>
        simp only [Act.put, List.setIfInBounds_toArray, List.set_cons_zero, List.set_cons_succ]
        refine anyT_put 6 46 ?rv109 #[true, true, true, true, true, true, true, false, false, false, false] rfl rfl rfl (by kernel_rfl) (by kernel_rfl) (by kernel_rfl) (fun _ _ _ h => h) (by decide) ?ry109 (fun _ => ⟨cX, cY⟩) ?rm109
        case ry109 => first | exact Or.inl ⟨by rfl, by intro w'; go_simp; first | done | rfl⟩
        case rm109 =>
        simp only [Act.put, List.setIfInBounds_toArray, List.set_cons_zero, List.set_cons_succ]
        refine anyT_put 7 47 ?rv110 #[true, true, true, true, true, true, true, true, false, false, false] rfl rfl rfl (by kernel_rfl) (by kernel_rfl) (by kernel_rfl) (fun _ _ _ h => h) (by decide) ?ry110 (fun _ => ⟨cX, cY⟩) ?rm110
        case ry110 => first | exact Or.inl ⟨by rfl, by intro w'; go_simp; first | done | rfl⟩
        case rm110 =>
        simp only [Act.put, List.setIfInBounds_toArray, List.set_cons_zero, List.set_cons_succ]
        refine anyT_take 8 48 ?rv111 #[true, true, true, true, true, true, true, true, true, false, false] rfl rfl rfl (by kernel_rfl) (by kernel_rfl) (by kernel_rfl) (fun _ _ _ h => h) (by kernel_rfl) (by decide) (by kernel_rfl) ?ry111 (⟨cX, cY⟩) ?rm111
        case ry111 => first | exact Or.inl ⟨by rfl, by intro w' hw'; (try dsimp only at hw'); go_simp; first | done | rfl⟩
        case rm111 =>
        simp only [Act.put, List.setIfInBounds_toArray, List.set_cons_zero, List.set_cons_succ]
        refine anyT_one 9 #[true, true, true, true, true, true, true, true, true, true, false] (by kernel_rfl) rfl rfl (fun K hK => ?_)
        go_simp
        go_wp2_with fail
        refine HCC.out.mono ?_
        rintro e v1 ⟨rfl, hB1⟩
        refine hK.out _ _ (fun h => absurd h (by decide)) ?_
        clear hK K
        refine anyT_one 10 #[true, true, true, true, true, true, true, true, true, true, true] (by kernel_rfl) rfl rfl (fun K hK => ?_)
        go_simp
        refine hK.out _ _ (fun h => absurd h (by decide)) ?_
        clear hK K
        refine anyT_done (by kernel_rfl) ?_
        have HR1 : Hid (v1.rowIs S 3 n (zc z)) := HRw.out.of_block (hB1.block S hSz)
        have HG1 : Hid (w.grownBy v1 (some S)) := sgrown_bel (w := wr) HG.out ((Below.refl _ wr).drew.trans hB1)
        clear hB1 cX cY
        go_wp2_with fail
        exact ⟨⟨h + 1, j, by go_num, rfl, HR1.out, HG1.out, HBs.out.up HF.out hih hhj HLL.out⟩, by simp [intOf]; omega⟩
      · have HLL : Hid (Pa1 lt z a h = false) := by show _ = _; unfold Pa1; exact Bool.eq_false_iff.2 (fun q => hc (HCL.out.2 q))
        have hcb : decide (c X Y < 0) = false := decide_eq_false hc
        go_wp2_with fail
        refine anyT_begin 9 (fun w' => w'.cell? ⟨S, h, none⟩ = some (.int .i64 (X : Nat)) ∧ w'.cell? ⟨S, a, none⟩ = some (.int .i64 (Y : Nat))) 11 #[false, false, false, false, false, false, false, false, false, false, false] (by kernel_rfl) rfl rfl ?_
        refine anyT_put 0 40 ?rv114 #[true, false, false, false, false, false, false, false, false, false, false] rfl rfl rfl (by kernel_rfl) (by kernel_rfl) (by kernel_rfl) (fun _ _ _ h => h) (by decide) ?ry114 (fun _ => ⟨cX, cY⟩) ?rm114
        case ry114 => first | exact Or.inl ⟨by rfl, by intro w'; go_simp; first | done | rfl⟩
        case rm114 =>
        simp only [Act.put, List.setIfInBounds_toArray, List.set_cons_zero, List.set_cons_succ]
        refine anyT_put 1 41 ?rv115 #[true, true, false, false, false, false, false, false, false, false, false] rfl rfl rfl (by kernel_rfl) (by kernel_rfl) (by kernel_rfl) (fun _ _ _ h => h) (by decide) ?ry115 (fun _ => ⟨cX, cY⟩) ?rm115
        case ry115 => first | exact Or.inl ⟨by rfl, by intro w'; go_simp; first | done | rfl⟩
        case rm115 =>
        simp only [Act.put, List.setIfInBounds_toArray, List.set_cons_zero, List.set_cons_succ]
        refine anyT_put 2 42 ?rv116 #[true, true, true, false, false, false, false, false, false, false, false] rfl rfl rfl (by kernel_rfl) (by kernel_rfl) (by kernel_rfl) (fun _ _ _ h => h) (by decide) ?ry116 (fun _ => ⟨cX, cY⟩) ?rm116
        case ry116 => first | exact Or.inl ⟨by rfl, by intro w'; go_simp; first | done | rfl⟩
        case rm116 =>
        simp only [Act.put, List.setIfInBounds_toArray, List.set_cons_zero, List.set_cons_succ]
        refine anyT_put 3 43 ?rv117 #[true, true, true, true, false, false, false, false, false, false, false] rfl rfl rfl (by kernel_rfl) (by kernel_rfl) (by kernel_rfl) (fun _ _ _ h => h) (by decide) ?ry117 (fun _ => ⟨cX, cY⟩) ?rm117
        case ry117 => first | exact Or.inl ⟨by rfl, by intro w'; go_simp; first | done | rfl⟩
        case rm117 =>
        simp only [Act.put, List.setIfInBounds_toArray, List.set_cons_zero, List.set_cons_succ]
        refine anyT_take 4 44 ?rv118 #[true, true, true, true, true, false, false, false, false, false, false] rfl rfl rfl (by kernel_rfl) (by kernel_rfl) (by kernel_rfl) (fun _ _ _ h => h) (by kernel_rfl) (by decide) (by kernel_rfl) ?ry118 (⟨cX, cY⟩) ?rm118
        case ry118 => first | exact Or.inl ⟨by rfl, by intro w' hw'; (try dsimp only at hw'); go_simp; first | done | rfl⟩
        case rm118 =>
        simp only [Act.put, List.setIfInBounds_toArray, List.set_cons_zero, List.set_cons_succ]
        refine anyT_put 5 45 ?rv119 #[true, true, true, true, true, true, false, false, false, false, false] rfl rfl rfl (by kernel_rfl) (by kernel_rfl) (by kernel_rfl) (fun _ _ _ h => h) (by decide) ?ry119 (fun _ => ⟨cX, cY⟩) ?rm119
        case ry119 => first | exact Or.inl ⟨by rfl, by intro w'; go_simp; first | done | rfl⟩
        case rm119 =>
        simp only [Act.put, List.setIfInBounds_toArray, List.set_cons_zero, List.set_cons_succ]
        refine anyT_put 6 46 ?rv120 #[true, true, true, true, true, true, true, false, false, false, false] rfl rfl rfl (by kernel_rfl) (by kernel_rfl) (by kernel_rfl) (fun _ _ _ h => h) (by decide) ?ry120 (fun _ => ⟨cX, cY⟩) ?rm120
        case ry120 => first | exact Or.inl ⟨by rfl, by intro w'; go_simp; first | done | rfl⟩
        case rm120 =>
        simp only [Act.put, List.setIfInBounds_toArray, List.set_cons_zero, List.set_cons_succ]
        refine anyT_put 7 47 ?rv121 #[true, true, true, true, true, true, true, true, false, false, false] rfl rfl rfl (by kernel_rfl) (by kernel_rfl) (by kernel_rfl) (fun _ _ _ h => h) (by decide) ?ry121 (fun _ => ⟨cX, cY⟩) ?rm121
        case ry121 => first | exact Or.inl ⟨by rfl, by intro w'; go_simp; first | done | rfl⟩
        case rm121 =>
        simp only [Act.put, List.setIfInBounds_toArray, List.set_cons_zero, List.set_cons_succ]
        refine anyT_take 8 48 ?rv122 #[true, true, true, true, true, true, true, true, true, false, false] rfl rfl rfl (by kernel_rfl) (by kernel_rfl) (by kernel_rfl) (fun _ _ _ h => h) (by kernel_rfl) (by decide) (by kernel_rfl) ?ry122 (⟨cX, cY⟩) ?rm122
        case ry122 => first | exact Or.inl ⟨by rfl, by intro w' hw'; (try dsimp only at hw'); go_simp; first | done | rfl⟩
        case rm122 =>
        simp only [Act.put, List.setIfInBounds_toArray, List.set_cons_zero, List.set_cons_succ]
        refine anyT_one 9 #[true, true, true, true, true, true, true, true, true, true, false] (by kernel_rfl) rfl rfl (fun K hK => ?_)
        go_simp
        go_wp2_with fail
        refine HCC.out.mono ?_
        rintro e v1 ⟨rfl, hB1⟩
        refine hK.out _ _ (fun h => absurd h (by decide)) ?_
        clear hK K
        refine anyT_one 10 #[true, true, true, true, true, true, true, true, true, true, true] (by kernel_rfl) rfl rfl (fun K hK => ?_)
        go_simp
        refine hK.out _ _ (fun h => absurd h (by decide)) ?_
        clear hK K
        refine anyT_done (by kernel_rfl) ?_
        have HR1 : Hid (v1.rowIs S 3 n (zc z)) := HRw.out.of_block (hB1.block S hSz)
        have HG1 : Hid (w.grownBy v1 (some S)) := sgrown_bel (w := wr) HG.out ((Below.refl _ wr).drew.trans hB1)
        clear hB1 cX cY
        go_wp2_with fail
        exact ⟨⟨i, h, rfl, rfl, HR1.out, HG1.out, HBs.out.down HF.out hih hhj HLL.out⟩, by simp [intOf]; omega⟩
    · obtain rfl : i = j := by omega
      clear hrow hG hBs
      go_wp2_with fail
      go_loopw [13] (fun vk wr => ∃ k : Nat, a ≤ k ∧ k + 1 ≤ i ∧ vk = .int .i64 k ∧ wr.rowIs S 3 n (zc (mvL (shL a k) z)) ∧ w.grownBy wr (some S)) (fun vk _ => i - (intOf vk).toNat)
      case atStart => exact ⟨a, Nat.le_refl _, by omega, rfl, by rw [shL_zero]; exact HRw.out, HG.out⟩
      case round =>
        obtain ⟨k, hk1, hk2, rfl, hrow, hG⟩ := hrel
        by_cases hki : k + 1 < i
        · have hki2 : (k : Int) < (i : Int) - 1 := by omega
          have hL2 : (mvL (shL a k) z).length = n := by rw [mvL_length]; exact HL.out.1
          obtain ⟨K, hK⟩ : ∃ K : Nat, K = k + 1 := ⟨k + 1, by omega⟩
          have hkn : k < n := by omega
          have hKn : K < n := by omega
          have hkK : k ≠ K := by omega
          have ck := hrow.cell hkn
          have cK := hrow.cell hKn
          have fk := hrow.frozen k
          have fK := hrow.frozen K
          unfold zc at ck cK
          have HS2 : Hid (((wr.setCell ⟨S, k, none⟩ (.int .i64 (nth (mvL (shL a k) z) K))).setCell ⟨S, K, none⟩ (.int .i64 (nth (mvL (shL a k) z) k))).rowIs S 3 n (zc (mvL (shL a K) z))) := by
            refine zc_swap2 hrow hL2 hkn hKn rfl rfl ?_
            have h := shL_step (z := z) (a := a) (k := k) hk1 (by rw [HL.out.1]; omega); rw [← hK] at h; exact h
          obtain ⟨xk, hxk⟩ : ∃ x, x = nth (mvL (shL a k) z) k := ⟨_, rfl⟩
          obtain ⟨xK, hxK⟩ : ∃ x, x = nth (mvL (shL a k) z) K := ⟨_, rfl⟩
          rw [← hxk] at ck
          rw [← hxK] at cK
          rw [← hxk, ← hxK] at HS2
          have w1 : IntKind.i64.wrap ((k : Int) + 1) = (K : Int) := by rw [wr_sm (by omega)]; omega
          have HK : Hid (K = k + 1) := hK
          have HG2 : Hid (w.grownBy wr (some S)) := hG
          clear hrow hG hL2 hxk hxK hK
          go_wp2_with fail
          refine anyT_begin 14 (fun w' => w'.cell? ⟨S, k, none⟩ = some (.int .i64 xk) ∧ w'.cell? ⟨S, K, none⟩ = some (.int .i64 xK)) 18 #[false, false, false, false, false, false, false, false, false, false, false, false, false, false, false, false, false, false] (by kernel_rfl) rfl rfl ?_
          refine anyT_put 0 61 ?rv125 #[true, false, false, false, false, false, false, false, false, false, false, false, false, false, false, false, false, false] rfl rfl rfl (by kernel_rfl) (by kernel_rfl) (by kernel_rfl) (fun _ _ _ h => h) (by decide) ?ry125 (fun _ => ⟨ck, cK⟩) ?rm125
          case ry125 => first | exact Or.inl ⟨by rfl, by intro w'; go_simp; first | done | rfl⟩
          case rm125 =>
          simp only [Act.put, List.setIfInBounds_toArray, List.set_cons_zero, List.set_cons_succ]
          refine anyT_put 1 62 ?rv126 #[true, true, false, false, false, false, false, false, false, false, false, false, false, false, false, false, false, false] rfl rfl rfl (by kernel_rfl) (by kernel_rfl) (by kernel_rfl) (fun _ _ _ h => h) (by decide) ?ry126 (fun _ => ⟨ck, cK⟩) ?rm126
          case ry126 => first | exact Or.inl ⟨by rfl, by intro w'; go_simp; first | done | rfl⟩
          case rm126 =>
          simp only [Act.put, List.setIfInBounds_toArray, List.set_cons_zero, List.set_cons_succ]
          refine anyT_put 2 63 ?rv127 #[true, true, true, false, false, false, false, false, false, false, false, false, false, false, false, false, false, false] rfl rfl rfl (by kernel_rfl) (by kernel_rfl) (by kernel_rfl) (fun _ _ _ h => h) (by decide) ?ry127 (fun _ => ⟨ck, cK⟩) ?rm127
          case ry127 => first | exact Or.inl ⟨by rfl, by intro w'; go_simp; first | done | rfl⟩
          case rm127 =>
          simp only [Act.put, List.setIfInBounds_toArray, List.set_cons_zero, List.set_cons_succ]
          refine anyT_put 3 64 ?rv128 #[true, true, true, true, false, false, false, false, false, false, false, false, false, false, false, false, false, false] rfl rfl rfl (by kernel_rfl) (by kernel_rfl) (by kernel_rfl) (fun _ _ _ h => h) (by decide) ?ry128 (fun _ => ⟨ck, cK⟩) ?rm128
          case ry128 => first | exact Or.inl ⟨by rfl, by intro w'; go_simp; first | done | rfl⟩
          case rm128 =>
          simp only [Act.put, List.setIfInBounds_toArray, List.set_cons_zero, List.set_cons_succ]
          refine anyT_put 4 65 ?rv129 #[true, true, true, true, true, false, false, false, false, false, false, false, false, false, false, false, false, false] rfl rfl rfl (by kernel_rfl) (by kernel_rfl) (by kernel_rfl) (fun _ _ _ h => h) (by decide) ?ry129 (fun _ => ⟨ck, cK⟩) ?rm129
          case ry129 => first | exact Or.inl ⟨by rfl, by intro w'; go_simp; first | done | rfl⟩
          case rm129 =>
          simp only [Act.put, List.setIfInBounds_toArray, List.set_cons_zero, List.set_cons_succ]
          refine anyT_put 5 66 ?rv130 #[true, true, true, true, true, true, false, false, false, false, false, false, false, false, false, false, false, false] rfl rfl rfl (by kernel_rfl) (by kernel_rfl) (by kernel_rfl) (fun _ _ _ h => h) (by decide) ?ry130 (fun _ => ⟨ck, cK⟩) ?rm130
          case ry130 => first | exact Or.inl ⟨by rfl, by intro w'; go_simp; first | done | rfl⟩
          case rm130 =>
          simp only [Act.put, List.setIfInBounds_toArray, List.set_cons_zero, List.set_cons_succ]
          refine anyT_put 6 67 ?rv131 #[true, true, true, true, true, true, true, false, false, false, false, false, false, false, false, false, false, false] rfl rfl rfl (by kernel_rfl) (by kernel_rfl) (by kernel_rfl) (fun _ _ _ h => h) (by decide) ?ry131 (fun _ => ⟨ck, cK⟩) ?rm131
          case ry131 => first | exact Or.inl ⟨by rfl, by intro w'; go_simp; first | done | rfl⟩
          case rm131 =>
          simp only [Act.put, List.setIfInBounds_toArray, List.set_cons_zero, List.set_cons_succ]
          refine anyT_put 7 68 ?rv132 #[true, true, true, true, true, true, true, true, false, false, false, false, false, false, false, false, false, false] rfl rfl rfl (by kernel_rfl) (by kernel_rfl) (by kernel_rfl) (fun _ _ _ h => h) (by decide) ?ry132 (fun _ => ⟨ck, cK⟩) ?rm132
          case ry132 => first | exact Or.inl ⟨by rfl, by intro w'; go_simp; first | done | rfl⟩
          case rm132 =>
          simp only [Act.put, List.setIfInBounds_toArray, List.set_cons_zero, List.set_cons_succ]
          refine anyT_put 8 69 ?rv133 #[true, true, true, true, true, true, true, true, true, false, false, false, false, false, false, false, false, false] rfl rfl rfl (by kernel_rfl) (by kernel_rfl) (by kernel_rfl) (fun _ _ _ h => h) (by decide) ?ry133 (fun _ => ⟨ck, cK⟩) ?rm133
          case ry133 => first | exact Or.inl ⟨by rfl, by intro w'; go_simp; first | done | rfl⟩
          case rm133 =>
          simp only [Act.put, List.setIfInBounds_toArray, List.set_cons_zero, List.set_cons_succ]
          refine anyT_take 9 70 ?rv134 #[true, true, true, true, true, true, true, true, true, true, false, false, false, false, false, false, false, false] rfl rfl rfl (by kernel_rfl) (by kernel_rfl) (by kernel_rfl) (fun _ _ _ h => h) (by kernel_rfl) (by decide) (by kernel_rfl) ?ry134 (⟨ck, cK⟩) ?rm134
          case ry134 => first | exact Or.inl ⟨by rfl, by intro w' hw'; (try dsimp only at hw'); go_simp; first | done | rfl⟩
          case rm134 =>
          simp only [Act.put, List.setIfInBounds_toArray, List.set_cons_zero, List.set_cons_succ]
          refine anyT_put 10 71 ?rv135 #[true, true, true, true, true, true, true, true, true, true, true, false, false, false, false, false, false, false] rfl rfl rfl (by kernel_rfl) (by kernel_rfl) (by kernel_rfl) (fun _ _ _ h => h) (by decide) ?ry135 (fun _ => ⟨ck, cK⟩) ?rm135
          case ry135 => first | exact Or.inl ⟨by rfl, by intro w'; go_simp; first | done | rfl⟩
          case rm135 =>
          simp only [Act.put, List.setIfInBounds_toArray, List.set_cons_zero, List.set_cons_succ]
          refine anyT_put 11 72 ?rv136 #[true, true, true, true, true, true, true, true, true, true, true, true, false, false, false, false, false, false] rfl rfl rfl (by kernel_rfl) (by kernel_rfl) (by kernel_rfl) (fun _ _ _ h => h) (by decide) ?ry136 (fun _ => ⟨ck, cK⟩) ?rm136
          case ry136 => first | exact Or.inl ⟨by rfl, by intro w'; go_simp; first | done | rfl⟩
          case rm136 =>
          simp only [Act.put, List.setIfInBounds_toArray, List.set_cons_zero, List.set_cons_succ]
          refine anyT_put 12 73 ?rv137 #[true, true, true, true, true, true, true, true, true, true, true, true, true, false, false, false, false, false] rfl rfl rfl (by kernel_rfl) (by kernel_rfl) (by kernel_rfl) (fun _ _ _ h => h) (by decide) ?ry137 (fun _ => ⟨ck, cK⟩) ?rm137
          case ry137 => first | exact Or.inl ⟨by rfl, by intro w'; go_simp; first | done | rfl⟩
          case rm137 =>
          simp only [Act.put, List.setIfInBounds_toArray, List.set_cons_zero, List.set_cons_succ]
          refine anyT_take 13 74 ?rv138 #[true, true, true, true, true, true, true, true, true, true, true, true, true, true, false, false, false, false] rfl rfl rfl (by kernel_rfl) (by kernel_rfl) (by kernel_rfl) (fun _ _ _ h => h) (by kernel_rfl) (by decide) (by kernel_rfl) ?ry138 (⟨ck, cK⟩) ?rm138
          case ry138 => first | exact Or.inl ⟨by rfl, by intro w' hw'; (try dsimp only at hw'); go_simp; first | done | rfl⟩
          case rm138 =>
          simp only [Act.put, List.setIfInBounds_toArray, List.set_cons_zero, List.set_cons_succ]
          refine anyT_one 14 #[true, true, true, true, true, true, true, true, true, true, true, true, true, true, true, false, false, false] (by kernel_rfl) rfl rfl (fun K hK => ?_)
          go_simp
          refine hK.out _ _ (fun h => absurd h (by decide)) ?_
          clear hK K
          refine anyT_one 15 #[true, true, true, true, true, true, true, true, true, true, true, true, true, true, true, true, false, false] (by kernel_rfl) rfl rfl (fun K hK => ?_)
          go_simp
          refine hK.out _ _ (fun h => absurd h (by decide)) ?_
          clear hK K
          refine anyT_one 16 #[true, true, true, true, true, true, true, true, true, true, true, true, true, true, true, true, true, false] (by kernel_rfl) rfl rfl (fun K hK => ?_)
          go_simp
          refine hK.out _ _ (fun h => absurd h (by decide)) ?_
          clear hK K
          refine anyT_one 17 #[true, true, true, true, true, true, true, true, true, true, true, true, true, true, true, true, true, true] (by kernel_rfl) rfl rfl (fun K hK => ?_)
          go_simp
          refine hK.out _ _ (fun h => absurd h (by decide)) ?_
          clear hK K
          refine anyT_done (by kernel_rfl) ?_
          go_wp2_with fail
          have hkk := HK.out
          exact ⟨⟨K, by omega, by omega, by first | rfl | (congr 1; omega), HS2.out, sgrown_set2 HG2.out _ _ _ _⟩, by simp [intOf]; omega⟩
        · have hki2 : ¬ (k : Int) < (i : Int) - 1 := by omega
          have HRk : Hid (wr.rowIs S 3 n (zc (mvL (shL a k) z))) := hrow
          have HGk : Hid (w.grownBy wr (some S)) := hG
          clear hrow hG
          go_wp2_with fail
          go_end0
          refine ⟨⟨_, rfl⟩, _, HRk.out, HGk.out, ⟨_, rfl, shL_fx hk1 (by omega)⟩, ?_⟩
          have hm := HM.out
          have h := ris_shL HT.out.1 HL.out.2 HL.out.1 (a := a) (i := i) (b := b) (by omega) hb2 hb (by rw [← hm]; exact HS.out.1) (fun q h1 h2 => HBs.out.yes q (by omega) h2) (fun q h1 h2 => HBs.out.no q h1 h2)
          rw [show i - 1 = k by omega] at h
          exact h
set_option maxRecDepth 100000 in
set_option maxHeartbeats 4000000 in
theorem sm2_any (S n sc : Nat) (f : Nat) (cs : List Value) (hE : ∀ args w, (callFunc f args).run Try.prog w = .ok (.enter f args) w) (lt : Nat → Nat → Bool) (c : Nat → Nat → Int) (T : Tot lt n) (hcl : ∀ x y, x < n → y < n → y < x → (c x y < 0 ↔ lt x y = true)) (w0 : World) (hC : CmpF f cs n c S w0)
    (a m b : Nat) (z : List Int) (hl : z.length = n) (ho : IsOrd z) (hn : n ≤ 4096) (ha : a + 1 < m) (hm : b = m + 1) (hb : b ≤ n) (hr1 : Ris lt z a m) (hs : Sep z a m b) (w : World) (hw : w0.grownBy w (some S)) (hrow : w.rowIs S 3 n (zc z)) :
    Calls Try.prog 83 #[.slice (some ⟨S, 0, none⟩) n sc, .int .i64 (a : Nat), .int .i64 (m : Nat), .int .i64 (b : Nat), .func (.func f) #[] cs.toArray] w (Sod S n lt a b z w) := by
  have HR : Hid (w.rowIs S 3 n (zc z)) := hrow
  have HL : Hid (z.length = n ∧ IsOrd z) := ⟨hl, ho⟩
  have HT : Hid (Tot lt n ∧ (∀ x y, x < n → y < n → y < x → (c x y < 0 ↔ lt x y = true))) := ⟨T, hcl⟩
  have HC : Hid (CmpF f cs n c S w0) := hC
  have HW0 : Hid (w0.grownBy w (some S)) := hw
  have HS : Hid (Ris lt z a m ∧ Sep z a m b) := ⟨hr1, hs⟩
  have HF : Hid (Fall (Pa2 lt z m) a m) := Pa2_fall T ho hl (by omega) hr1
  have HM : Hid (b = m + 1) := hm
  have hma : ((m : Int) - (a : Int) == 1) = false := by rw [beq_eq_false_iff_ne]; omega
  have hmb2 : (b : Int) - (m : Int) = 1 := by omega
  have hmb : m < b := by omega
  clear hrow hl ho T hcl hC hr1 hs hw hm
  go_enter Try.func83, Try.ntmps83
  go_wp2_with fail
  go_loopw [14, 15] (fun vi vj wr => ∃ i j : Nat, vi = .int .i64 i ∧ vj = .int .i64 j ∧ wr.rowIs S 3 n (zc z) ∧ w.grownBy wr (some S) ∧ Bs (Pa2 lt z m) a m i j) (fun vi vj _ => (intOf vj).toNat - (intOf vi).toNat)
  case atStart => exact ⟨a, m, rfl, rfl, HR.out, World.grownBy.refl _ _, Bs.zero (by omega)⟩
  case round =>
    obtain ⟨i, j, rfl, rfl, hrow, hG, hBs⟩ := hrel
    have hb1 := hBs.l
    have hb2 := hBs.r
    have hb3 := hBs.m
    have HRw : Hid (wr.rowIs S 3 n (zc z)) := hrow
    have HG : Hid (w.grownBy wr (some S)) := hG
    have HBs : Hid (Bs (Pa2 lt z m) a m i j) := hBs
    by_cases hij : i < j
    · obtain ⟨h, hh⟩ : ∃ h : Nat, h = (i + j) / 2 := ⟨_, rfl⟩
      have hih : i ≤ h := by omega
      have hhj : h < j := by omega
      have eh : ((i : Int) + (j : Int)) / 2 = (h : Int) := by omega
      clear hh
      have hhn : h < n := by omega
      have hXn : m < n := by omega
      have hYn : h < n := by omega
      have cX := zc_at hrow HL.out.2 HL.out.1 hXn
      have cY := zc_at hrow HL.out.2 HL.out.1 hYn
      obtain ⟨X, hX⟩ : ∃ X, X = nt z m := ⟨_, rfl⟩
      obtain ⟨Y, hY⟩ : ∃ Y, Y = nt z h := ⟨_, rfl⟩
      rw [← hX] at cX
      rw [← hY] at cY
      have hXl : X < n := by rw [hX]; exact nt_lt HL.out.2 HL.out.1 hXn
      have hYl : Y < n := by rw [hY]; exact nt_lt HL.out.2 HL.out.1 hYn
      have HCL : Hid (c X Y < 0 ↔ lt (nt z m) (nt z h) = true) := by
        rw [← hX, ← hY]
        exact HT.out.2 X Y hXl hYl (by rw [hX, hY]; exact HS.out.2 h m (by omega) (by omega) (Nat.le_refl _) hmb)
      have HCC : Hid (Calls Try.prog f (.int .i64 (X : Nat) :: .int .i64 (Y : Nat) :: cs).toArray wr.drew fun r W' => r = .returned (.int .i64 (c X Y)) ∧ Below wr.drew.heap.size wr.drew W') :=
        HC.out X Y wr.drew hXl hYl (sgrown_t HW0.out (sgrown_t HG.out ⟨rfl, rfl, rfl, Nat.le_refl _, fun _ _ _ => rfl⟩))
      have hSz : S < wr.heap.size := hrow.lt
      clear hrow hG hBs hX hY
      by_cases hc : c X Y < 0
      · have HLL : Hid (Pa2 lt z m h = false) := by show _ = _; unfold Pa2; rw [HCL.out.1 hc]; rfl
        go_wp2_with fail
        refine anyT_begin 9 (fun w' => w'.cell? ⟨S, m, none⟩ = some (.int .i64 (X : Nat)) ∧ w'.cell? ⟨S, h, none⟩ = some (.int .i64 (Y : Nat))) 12 #[false, false, false, false, false, false, false, false, false, false, false, false] (by kernel_rfl) rfl rfl ?_
        refine anyT_put 0 92 ?rv143 #[true, false, false, false, false, false, false, false, false, false, false, false] rfl rfl rfl (by kernel_rfl) (by kernel_rfl) (by kernel_rfl) (fun _ _ _ h => h) (by decide) ?ry143 (fun _ => ⟨cX, cY⟩) ?rm143
        case ry143 => first | exact Or.inl ⟨by rfl, by intro w'; go_simp; first | done | rfl⟩
        case rm143 =>
        simp only [Act.put, List.setIfInBounds_toArray, List.set_cons_zero, List.set_cons_succ]
        refine anyT_put 1 93 ?rv144 #[true, true, false, false, false, false, false, false, false, false, false, false] rfl rfl rfl (by kernel_rfl) (by kernel_rfl) (by kernel_rfl) (fun _ _ _ h => h) (by decide) ?ry144 (fun _ => ⟨cX, cY⟩) ?rm144
        case ry144 => first | exact Or.inl ⟨by rfl, by intro w'; go_simp; first | done | rfl⟩
        case rm144 =>
        simp only [Act.put, List.setIfInBounds_toArray, List.set_cons_zero, List.set_cons_succ]
        refine anyT_put 2 94 ?rv145 #[true, true, true, false, false, false, false, false, false, false, false, false] rfl rfl rfl (by kernel_rfl) (by kernel_rfl) (by kernel_rfl) (fun _ _ _ h => h) (by decide) ?ry145 (fun _ => ⟨cX, cY⟩) ?rm145
        case ry145 => first | exact Or.inl ⟨by rfl, by intro w'; go_simp; first | done | rfl⟩
        case rm145 =>
        simp only [Act.put, List.setIfInBounds_toArray, List.set_cons_zero, List.set_cons_succ]
        refine anyT_put 3 95 ?rv146 #[true, true, true, true, false, false, false, false, false, false, false, false] rfl rfl rfl (by kernel_rfl) (by kernel_rfl) (by kernel_rfl) (fun _ _ _ h => h) (by decide) ?ry146 (fun _ => ⟨cX, cY⟩) ?rm146
        case ry146 => first | exact Or.inl ⟨by rfl, by intro w'; go_simp; first | done | rfl⟩
        case rm146 =>
        simp only [Act.put, List.setIfInBounds_toArray, List.set_cons_zero, List.set_cons_succ]
        refine anyT_take 4 96 ?rv147 #[true, true, true, true, true, false, false, false, false, false, false, false] rfl rfl rfl (by kernel_rfl) (by kernel_rfl) (by kernel_rfl) (fun _ _ _ h => h) (by kernel_rfl) (by decide) (by kernel_rfl) ?ry147 (⟨cX, cY⟩) ?rm147
        case ry147 => first | exact Or.inl ⟨by rfl, by intro w' hw'; (try dsimp only at hw'); go_simp; first | done | rfl⟩
        case rm147 =>
        simp only [Act.put, List.setIfInBounds_toArray, List.set_cons_zero, List.set_cons_succ]
        refine anyT_put 5 97 ?rv148 #[true, true, true, true, true, true, false, false, false, false, false, false] rfl rfl rfl (by kernel_rfl) (by kernel_rfl) (by kernel_rfl) (fun _ _ _ h => h) (by decide) ?ry148 (fun _ => ⟨cX, cY⟩) ?rm148
        case ry148 => first | exact Or.inl ⟨by rfl, by intro w'; go_simp; first | done | rfl⟩
        case rm148 =>
        simp only [Act.put, List.setIfInBounds_toArray, List.set_cons_zero, List.set_cons_succ]
        refine anyT_put 6 98 ?rv149 #[true, true, true, true, true, true, true, false, false, false, false, false] rfl rfl rfl (by kernel_rfl) (by kernel_rfl) (by kernel_rfl) (fun _ _ _ h => h) (by decide) ?ry149 (fun _ => ⟨cX, cY⟩) ?rm149
        case ry149 => first | exact Or.inl ⟨by rfl, by intro w'; go_simp; first | done | rfl⟩
        case rm149 =>
        simp only [Act.put, List.setIfInBounds_toArray, List.set_cons_zero, List.set_cons_succ]
        refine anyT_put 7 99 ?rv150 #[true, true, true, true, true, true, true, true, false, false, false, false] rfl rfl rfl (by kernel_rfl) (by kernel_rfl) (by kernel_rfl) (fun _ _ _ h => h) (by decide) ?ry150 (fun _ => ⟨cX, cY⟩) ?rm150
        case ry150 => first | exact Or.inl ⟨by rfl, by intro w'; go_simp; first | done | rfl⟩
        case rm150 =>
        simp only [Act.put, List.setIfInBounds_toArray, List.set_cons_zero, List.set_cons_succ]
        refine anyT_take 8 100 ?rv151 #[true, true, true, true, true, true, true, true, true, false, false, false] rfl rfl rfl (by kernel_rfl) (by kernel_rfl) (by kernel_rfl) (fun _ _ _ h => h) (by kernel_rfl) (by decide) (by kernel_rfl) ?ry151 (⟨cX, cY⟩) ?rm151
        case ry151 => first | exact Or.inl ⟨by rfl, by intro w' hw'; (try dsimp only at hw'); go_simp; first | done | rfl⟩
        case rm151 =>
        simp only [Act.put, List.setIfInBounds_toArray, List.set_cons_zero, List.set_cons_succ]
        refine anyT_one 9 #[true, true, true, true, true, true, true, true, true, true, false, false] (by kernel_rfl) rfl rfl (fun K hK => ?_)
        go_simp
        go_wp2_with fail
        refine HCC.out.mono ?_
        rintro e v1 ⟨rfl, hB1⟩
        refine hK.out _ _ (fun h => absurd h (by decide)) ?_
        clear hK K
        refine anyT_one 10 #[true, true, true, true, true, true, true, true, true, true, true, false] (by kernel_rfl) rfl rfl (fun K hK => ?_)
        go_simp
        refine hK.out _ _ (fun h => absurd h (by decide)) ?_
        clear hK K
        refine anyT_one 11 #[true, true, true, true, true, true, true, true, true, true, true, true] (by kernel_rfl) rfl rfl (fun K hK => ?_)
        go_simp
        refine hK.out _ _ (fun h => absurd h (by decide)) ?_
        clear hK K
        refine anyT_done (by kernel_rfl) ?_
        have HR1 : Hid (v1.rowIs S 3 n (zc z)) := HRw.out.of_block (hB1.block S hSz)
        have HG1 : Hid (w.grownBy v1 (some S)) := sgrown_bel (w := wr) HG.out ((Below.refl _ wr).drew.trans hB1)
        clear hB1 cX cY
        go_wp2_with fail
        exact ⟨⟨i, h, rfl, rfl, HR1.out, HG1.out, HBs.out.down HF.out hih hhj HLL.out⟩, by simp [intOf]; omega⟩
      · have HLL : Hid (Pa2 lt z m h = true) := by show _ = _; unfold Pa2; rw [Bool.not_eq_true']; exact Bool.eq_false_iff.2 (fun q => hc (HCL.out.2 q))
        have hcb : decide (c X Y < 0) = false := decide_eq_false hc
        go_wp2_with fail
        refine anyT_begin 9 (fun w' => w'.cell? ⟨S, m, none⟩ = some (.int .i64 (X : Nat)) ∧ w'.cell? ⟨S, h, none⟩ = some (.int .i64 (Y : Nat))) 12 #[false, false, false, false, false, false, false, false, false, false, false, false] (by kernel_rfl) rfl rfl ?_
        refine anyT_put 0 92 ?rv155 #[true, false, false, false, false, false, false, false, false, false, false, false] rfl rfl rfl (by kernel_rfl) (by kernel_rfl) (by kernel_rfl) (fun _ _ _ h => h) (by decide) ?ry155 (fun _ => ⟨cX, cY⟩) ?rm155
        case ry155 => first | exact Or.inl ⟨by rfl, by intro w'; go_simp; first | done | rfl⟩
        case rm155 =>
        simp only [Act.put, List.setIfInBounds_toArray, List.set_cons_zero, List.set_cons_succ]
        refine anyT_put 1 93 ?rv156 #[true, true, false, false, false, false, false, false, false, false, false, false] rfl rfl rfl (by kernel_rfl) (by kernel_rfl) (by kernel_rfl) (fun _ _ _ h => h) (by decide) ?ry156 (fun _ => ⟨cX, cY⟩) ?rm156
        case ry156 => first | exact Or.inl ⟨by rfl, by intro w'; go_simp; first | done | rfl⟩
        case rm156 =>
        simp only [Act.put, List.setIfInBounds_toArray, List.set_cons_zero, List.set_cons_succ]
        refine anyT_put 2 94 ?rv157 #[true, true, true, false, false, false, false, false, false, false, false, false] rfl rfl rfl (by kernel_rfl) (by kernel_rfl) (by kernel_rfl) (fun _ _ _ h => h) (by decide) ?ry157 (fun _ => ⟨cX, cY⟩) ?rm157
        case ry157 => first | exact Or.inl ⟨by rfl, by intro w'; go_simp; first | done | rfl⟩
        case rm157 =>
        simp only [Act.put, List.setIfInBounds_toArray, List.set_cons_zero, List.set_cons_succ]
        refine anyT_put 3 95 ?rv158 #[true, true, true, true, false, false, false, false, false, false, false, false] rfl rfl rfl (by kernel_rfl) (by kernel_rfl) (by kernel_rfl) (fun _ _ _ h => h) (by decide) ?ry158 (fun _ => ⟨cX, cY⟩) ?rm158
        case ry158 => first | exact Or.inl ⟨by rfl, by intro w'; go_simp; first | done | rfl⟩
        case rm158 =>
        simp only [Act.put, List.setIfInBounds_toArray, List.set_cons_zero, List.set_cons_succ]
        refine anyT_take 4 96 ?rv159 #[true, true, true, true, true, false, false, false, false, false, false, false] rfl rfl rfl (by kernel_rfl) (by kernel_rfl) (by kernel_rfl) (fun _ _ _ h => h) (by kernel_rfl) (by decide) (by kernel_rfl) ?ry159 (⟨cX, cY⟩) ?rm159
        case ry159 => first | exact Or.inl ⟨by rfl, by intro w' hw'; (try dsimp only at hw'); go_simp; first | done | rfl⟩
        case rm159 =>
        simp only [Act.put, List.setIfInBounds_toArray, List.set_cons_zero, List.set_cons_succ]
        refine anyT_put 5 97 ?rv160 #[true, true, true, true, true, true, false, false, false, false, false, false] rfl rfl rfl (by kernel_rfl) (by kernel_rfl) (by kernel_rfl) (fun _ _ _ h => h) (by decide) ?ry160 (fun _ => ⟨cX, cY⟩) ?rm160
        case ry160 => first | exact Or.inl ⟨by rfl, by intro w'; go_simp; first | done | rfl⟩
        case rm160 =>
        simp only [Act.put, List.setIfInBounds_toArray, List.set_cons_zero, List.set_cons_succ]
        refine anyT_put 6 98 ?rv161 #[true, true, true, true, true, true, true, false, false, false, false, false] rfl rfl rfl (by kernel_rfl) (by kernel_rfl) (by kernel_rfl) (fun _ _ _ h => h) (by decide) ?ry161 (fun _ => ⟨cX, cY⟩) ?rm161
        case ry161 => first | exact Or.inl ⟨by rfl, by intro w'; go_simp; first | done | rfl⟩
        case rm161 =>
        simp only [Act.put, List.setIfInBounds_toArray, List.set_cons_zero, List.set_cons_succ]
        refine anyT_put 7 99 ?rv162 #[true, true, true, true, true, true, true, true, false, false, false, false] rfl rfl rfl (by kernel_rfl) (by kernel_rfl) (by kernel_rfl) (fun _ _ _ h => h) (by decide) ?ry162 (fun _ => ⟨cX, cY⟩) ?rm162
        case ry162 => first | exact Or.inl ⟨by rfl, by intro w'; go_simp; first | done | rfl⟩
        case rm162 =>
        simp only [Act.put, List.setIfInBounds_toArray, List.set_cons_zero, List.set_cons_succ]
        refine anyT_take 8 100 ?rv163 #[true, true, true, true, true, true, true, true, true, false, false, false] rfl rfl rfl (by kernel_rfl) (by kernel_rfl) (by kernel_rfl) (fun _ _ _ h => h) (by kernel_rfl) (by decide) (by kernel_rfl) ?ry163 (⟨cX, cY⟩) ?rm163
        case ry163 => first | exact Or.inl ⟨by rfl, by intro w' hw'; (try dsimp only at hw'); go_simp; first | done | rfl⟩
        case rm163 =>
        simp only [Act.put, List.setIfInBounds_toArray, List.set_cons_zero, List.set_cons_succ]
        refine anyT_one 9 #[true, true, true, true, true, true, true, true, true, true, false, false] (by kernel_rfl) rfl rfl (fun K hK => ?_)
        go_simp
        go_wp2_with fail
        refine HCC.out.mono ?_
        rintro e v1 ⟨rfl, hB1⟩
        refine hK.out _ _ (fun h => absurd h (by decide)) ?_
        clear hK K
        refine anyT_one 10 #[true, true, true, true, true, true, true, true, true, true, true, false] (by kernel_rfl) rfl rfl (fun K hK => ?_)
        go_simp
        refine hK.out _ _ (fun h => absurd h (by decide)) ?_
        clear hK K
        refine anyT_one 11 #[true, true, true, true, true, true, true, true, true, true, true, true] (by kernel_rfl) rfl rfl (fun K hK => ?_)
        go_simp
        refine hK.out _ _ (fun h => absurd h (by decide)) ?_
        clear hK K
        refine anyT_done (by kernel_rfl) ?_
        have HR1 : Hid (v1.rowIs S 3 n (zc z)) := HRw.out.of_block (hB1.block S hSz)
        have HG1 : Hid (w.grownBy v1 (some S)) := sgrown_bel (w := wr) HG.out ((Below.refl _ wr).drew.trans hB1)
        clear hB1 cX cY
        go_wp2_with fail
        exact ⟨⟨h + 1, j, by go_num, rfl, HR1.out, HG1.out, HBs.out.up HF.out hih hhj HLL.out⟩, by simp [intOf]; omega⟩
    · obtain rfl : i = j := by omega
      clear hrow hG hBs
      go_wp2_with fail
      go_loopw [17] (fun vk wr => ∃ k : Nat, i ≤ k ∧ k ≤ m ∧ vk = .int .i64 k ∧ wr.rowIs S 3 n (zc (mvL (shR k m) z)) ∧ w.grownBy wr (some S)) (fun vk _ => (intOf vk).toNat)
      case atStart => exact ⟨m, hb2, Nat.le_refl _, rfl, by rw [shR_zero]; exact HRw.out, HG.out⟩
      case round =>
        obtain ⟨k, hk1, hk2, rfl, hrow, hG⟩ := hrel
        by_cases hki : i < k
        · have hL2 : (mvL (shR k m) z).length = n := by rw [mvL_length]; exact HL.out.1
          obtain ⟨K, hK⟩ : ∃ K : Nat, k = K + 1 := ⟨k - 1, by omega⟩
          have hkn : k < n := by omega
          have hKn : K < n := by omega
          have hkK : k ≠ K := by omega
          have ck := hrow.cell hkn
          have cK := hrow.cell hKn
          have fk := hrow.frozen k
          have fK := hrow.frozen K
          unfold zc at ck cK
          have HS2 : Hid (((wr.setCell ⟨S, k, none⟩ (.int .i64 (nth (mvL (shR k m) z) K))).setCell ⟨S, K, none⟩ (.int .i64 (nth (mvL (shR k m) z) k))).rowIs S 3 n (zc (mvL (shR K m) z))) := by
            refine zc_swap2 hrow hL2 hkn hKn rfl rfl ?_
            have h := shR_step (z := z) (j := k) (i := m) (by omega) hk2 (by rw [HL.out.1]; omega); rw [show k - 1 = K by omega] at h; exact h
          obtain ⟨xk, hxk⟩ : ∃ x, x = nth (mvL (shR k m) z) k := ⟨_, rfl⟩
          obtain ⟨xK, hxK⟩ : ∃ x, x = nth (mvL (shR k m) z) K := ⟨_, rfl⟩
          rw [← hxk] at ck
          rw [← hxK] at cK
          rw [← hxk, ← hxK] at HS2
          have w1 : IntKind.i64.wrap ((k : Int) - 1) = (K : Int) := by rw [wr_sm (by omega)]; omega
          have HK : Hid (k = K + 1) := hK
          have HG2 : Hid (w.grownBy wr (some S)) := hG
          clear hrow hG hL2 hxk hxK hK
          go_wp2_with fail
          refine anyT_begin 14 (fun w' => w'.cell? ⟨S, k, none⟩ = some (.int .i64 xk) ∧ w'.cell? ⟨S, K, none⟩ = some (.int .i64 xK)) 18 #[false, false, false, false, false, false, false, false, false, false, false, false, false, false, false, false, false, false] (by kernel_rfl) rfl rfl ?_
          refine anyT_put 0 113 ?rv167 #[true, false, false, false, false, false, false, false, false, false, false, false, false, false, false, false, false, false] rfl rfl rfl (by kernel_rfl) (by kernel_rfl) (by kernel_rfl) (fun _ _ _ h => h) (by decide) ?ry167 (fun _ => ⟨ck, cK⟩) ?rm167
          case ry167 => first | exact Or.inl ⟨by rfl, by intro w'; go_simp; first | done | rfl⟩
          case rm167 =>
          simp only [Act.put, List.setIfInBounds_toArray, List.set_cons_zero, List.set_cons_succ]
          refine anyT_put 1 114 ?rv168 #[true, true, false, false, false, false, false, false, false, false, false, false, false, false, false, false, false, false] rfl rfl rfl (by kernel_rfl) (by kernel_rfl) (by kernel_rfl) (fun _ _ _ h => h) (by decide) ?ry168 (fun _ => ⟨ck, cK⟩) ?rm168
          case ry168 => first | exact Or.inl ⟨by rfl, by intro w'; go_simp; first | done | rfl⟩
          case rm168 =>
          simp only [Act.put, List.setIfInBounds_toArray, List.set_cons_zero, List.set_cons_succ]
          refine anyT_put 2 115 ?rv169 #[true, true, true, false, false, false, false, false, false, false, false, false, false, false, false, false, false, false] rfl rfl rfl (by kernel_rfl) (by kernel_rfl) (by kernel_rfl) (fun _ _ _ h => h) (by decide) ?ry169 (fun _ => ⟨ck, cK⟩) ?rm169
          case ry169 => first | exact Or.inl ⟨by rfl, by intro w'; go_simp; first | done | rfl⟩
          case rm169 =>
          simp only [Act.put, List.setIfInBounds_toArray, List.set_cons_zero, List.set_cons_succ]
          refine anyT_put 3 116 ?rv170 #[true, true, true, true, false, false, false, false, false, false, false, false, false, false, false, false, false, false] rfl rfl rfl (by kernel_rfl) (by kernel_rfl) (by kernel_rfl) (fun _ _ _ h => h) (by decide) ?ry170 (fun _ => ⟨ck, cK⟩) ?rm170
          case ry170 => first | exact Or.inl ⟨by rfl, by intro w'; go_simp; first | done | rfl⟩
          case rm170 =>
          simp only [Act.put, List.setIfInBounds_toArray, List.set_cons_zero, List.set_cons_succ]
          refine anyT_put 4 117 ?rv171 #[true, true, true, true, true, false, false, false, false, false, false, false, false, false, false, false, false, false] rfl rfl rfl (by kernel_rfl) (by kernel_rfl) (by kernel_rfl) (fun _ _ _ h => h) (by decide) ?ry171 (fun _ => ⟨ck, cK⟩) ?rm171
          case ry171 => first | exact Or.inl ⟨by rfl, by intro w'; go_simp; first | done | rfl⟩
          case rm171 =>
          simp only [Act.put, List.setIfInBounds_toArray, List.set_cons_zero, List.set_cons_succ]
          refine anyT_put 5 118 ?rv172 #[true, true, true, true, true, true, false, false, false, false, false, false, false, false, false, false, false, false] rfl rfl rfl (by kernel_rfl) (by kernel_rfl) (by kernel_rfl) (fun _ _ _ h => h) (by decide) ?ry172 (fun _ => ⟨ck, cK⟩) ?rm172
          case ry172 => first | exact Or.inl ⟨by rfl, by intro w'; go_simp; first | done | rfl⟩
          case rm172 =>
          simp only [Act.put, List.setIfInBounds_toArray, List.set_cons_zero, List.set_cons_succ]
          refine anyT_put 6 119 ?rv173 #[true, true, true, true, true, true, true, false, false, false, false, false, false, false, false, false, false, false] rfl rfl rfl (by kernel_rfl) (by kernel_rfl) (by kernel_rfl) (fun _ _ _ h => h) (by decide) ?ry173 (fun _ => ⟨ck, cK⟩) ?rm173
          case ry173 => first | exact Or.inl ⟨by rfl, by intro w'; go_simp; first | done | rfl⟩
          case rm173 =>
          simp only [Act.put, List.setIfInBounds_toArray, List.set_cons_zero, List.set_cons_succ]
          refine anyT_put 7 120 ?rv174 #[true, true, true, true, true, true, true, true, false, false, false, false, false, false, false, false, false, false] rfl rfl rfl (by kernel_rfl) (by kernel_rfl) (by kernel_rfl) (fun _ _ _ h => h) (by decide) ?ry174 (fun _ => ⟨ck, cK⟩) ?rm174
          case ry174 => first | exact Or.inl ⟨by rfl, by intro w'; go_simp; first | done | rfl⟩
          case rm174 =>
          simp only [Act.put, List.setIfInBounds_toArray, List.set_cons_zero, List.set_cons_succ]
          refine anyT_put 8 121 ?rv175 #[true, true, true, true, true, true, true, true, true, false, false, false, false, false, false, false, false, false] rfl rfl rfl (by kernel_rfl) (by kernel_rfl) (by kernel_rfl) (fun _ _ _ h => h) (by decide) ?ry175 (fun _ => ⟨ck, cK⟩) ?rm175
          case ry175 => first | exact Or.inl ⟨by rfl, by intro w'; go_simp; first | done | rfl⟩
          case rm175 =>
          simp only [Act.put, List.setIfInBounds_toArray, List.set_cons_zero, List.set_cons_succ]
          refine anyT_take 9 122 ?rv176 #[true, true, true, true, true, true, true, true, true, true, false, false, false, false, false, false, false, false] rfl rfl rfl (by kernel_rfl) (by kernel_rfl) (by kernel_rfl) (fun _ _ _ h => h) (by kernel_rfl) (by decide) (by kernel_rfl) ?ry176 (⟨ck, cK⟩) ?rm176
          case ry176 => first | exact Or.inl ⟨by rfl, by intro w' hw'; (try dsimp only at hw'); go_simp; first | done | rfl⟩
          case rm176 =>
          simp only [Act.put, List.setIfInBounds_toArray, List.set_cons_zero, List.set_cons_succ]
          refine anyT_put 10 123 ?rv177 #[true, true, true, true, true, true, true, true, true, true, true, false, false, false, false, false, false, false] rfl rfl rfl (by kernel_rfl) (by kernel_rfl) (by kernel_rfl) (fun _ _ _ h => h) (by decide) ?ry177 (fun _ => ⟨ck, cK⟩) ?rm177
          case ry177 => first | exact Or.inl ⟨by rfl, by intro w'; go_simp; first | done | rfl⟩
          case rm177 =>
          simp only [Act.put, List.setIfInBounds_toArray, List.set_cons_zero, List.set_cons_succ]
          refine anyT_put 11 124 ?rv178 #[true, true, true, true, true, true, true, true, true, true, true, true, false, false, false, false, false, false] rfl rfl rfl (by kernel_rfl) (by kernel_rfl) (by kernel_rfl) (fun _ _ _ h => h) (by decide) ?ry178 (fun _ => ⟨ck, cK⟩) ?rm178
          case ry178 => first | exact Or.inl ⟨by rfl, by intro w'; go_simp; first | done | rfl⟩
          case rm178 =>
          simp only [Act.put, List.setIfInBounds_toArray, List.set_cons_zero, List.set_cons_succ]
          refine anyT_put 12 125 ?rv179 #[true, true, true, true, true, true, true, true, true, true, true, true, true, false, false, false, false, false] rfl rfl rfl (by kernel_rfl) (by kernel_rfl) (by kernel_rfl) (fun _ _ _ h => h) (by decide) ?ry179 (fun _ => ⟨ck, cK⟩) ?rm179
          case ry179 => first | exact Or.inl ⟨by rfl, by intro w'; go_simp; first | done | rfl⟩
          case rm179 =>
          simp only [Act.put, List.setIfInBounds_toArray, List.set_cons_zero, List.set_cons_succ]
          refine anyT_take 13 126 ?rv180 #[true, true, true, true, true, true, true, true, true, true, true, true, true, true, false, false, false, false] rfl rfl rfl (by kernel_rfl) (by kernel_rfl) (by kernel_rfl) (fun _ _ _ h => h) (by kernel_rfl) (by decide) (by kernel_rfl) ?ry180 (⟨ck, cK⟩) ?rm180
          case ry180 => first | exact Or.inl ⟨by rfl, by intro w' hw'; (try dsimp only at hw'); go_simp; first | done | rfl⟩
          case rm180 =>
          simp only [Act.put, List.setIfInBounds_toArray, List.set_cons_zero, List.set_cons_succ]
          refine anyT_one 14 #[true, true, true, true, true, true, true, true, true, true, true, true, true, true, true, false, false, false] (by kernel_rfl) rfl rfl (fun K hK => ?_)
          go_simp
          refine hK.out _ _ (fun h => absurd h (by decide)) ?_
          clear hK K
          refine anyT_one 15 #[true, true, true, true, true, true, true, true, true, true, true, true, true, true, true, true, false, false] (by kernel_rfl) rfl rfl (fun K hK => ?_)
          go_simp
          refine hK.out _ _ (fun h => absurd h (by decide)) ?_
          clear hK K
          refine anyT_one 16 #[true, true, true, true, true, true, true, true, true, true, true, true, true, true, true, true, true, false] (by kernel_rfl) rfl rfl (fun K hK => ?_)
          go_simp
          refine hK.out _ _ (fun h => absurd h (by decide)) ?_
          clear hK K
          refine anyT_one 17 #[true, true, true, true, true, true, true, true, true, true, true, true, true, true, true, true, true, true] (by kernel_rfl) rfl rfl (fun K hK => ?_)
          go_simp
          refine hK.out _ _ (fun h => absurd h (by decide)) ?_
          clear hK K
          refine anyT_done (by kernel_rfl) ?_
          go_wp2_with fail
          have hkk := HK.out
          exact ⟨⟨K, by omega, by omega, by first | rfl | (congr 1; omega), HS2.out, sgrown_set2 HG2.out _ _ _ _⟩, by simp [intOf]; omega⟩
        · obtain rfl : k = i := by omega
          have HRk : Hid (wr.rowIs S 3 n (zc (mvL (shR k m) z))) := hrow
          have HGk : Hid (w.grownBy wr (some S)) := hG
          clear hrow hG
          go_wp2_with fail
          go_end0
          refine ⟨⟨_, rfl⟩, _, HRk.out, HGk.out, ⟨_, rfl, shR_fx hb1 hk2 (by omega)⟩, ?_⟩
          have hm := HM.out
          rw [hm]
          refine ris_shR HT.out.1 HL.out.2 HL.out.1 hb1 hk2 (by omega) HS.out.1 (fun q h1 h2 => ?_) ?_
          · have h := HBs.out.no q h1 h2
            unfold Pa2 at h
            rw [Bool.not_eq_false'] at h
            exact h
          · by_cases e : k = a
            · exact .inl e
            · right
              have h := HBs.out.yes (k - 1) (by omega) (by omega)
              unfold Pa2 at h
              rw [Bool.not_eq_true'] at h
              exact (tot_not HT.out.1 HL.out.2 HL.out.1 (by omega) (by omega) (by omega)).1 h
end Go.Proofs.Ytmbgomljofngnab
