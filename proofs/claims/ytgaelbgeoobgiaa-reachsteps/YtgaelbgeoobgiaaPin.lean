/-
  What prod.Inner tells.
-/
import Derived.Laws.EntriesVeiled
import Derived.Deep.DeepCutAuto
import Derived.Test.YtgaelbgeoobgiaaPin2
namespace Go.Proofs.Ytgaelbgeoobgiaa
open Go.RowKit
set_option linter.unusedVariables false

set_option maxRecDepth 100000 in
set_option maxHeartbeats 3000000 in
theorem ni_holds : CNi := by
  intro f g c sa sc sz da dc dz c' sa' sc' sz' da' dc' dz' w hf hg h1 h2 h1' h2' hs hd hs' hd' T T'
  have HI : Hid ((IsC w.heap.size w sa sz sc ∧ IsInts w.heap.size w da dz) ∧ (IsC w.heap.size w sa' sz' sc' ∧ IsInts w.heap.size w da' dz')) := ⟨⟨hs, hd⟩, hs', hd'⟩
  have HT : Hid ((∀ j, In64 (nth dz j)) ∧ ∀ j, In64 (nth dz' j)) := ⟨T, T'⟩
  obtain ⟨W0, hW0⟩ : ∃ W0, W0 = w.alloc (.cells #[.int .i64 f] 34) := ⟨_, rfl⟩
  have hs0 : W0.heap.size = w.heap.size + 1 := by rw [hW0]; simp
  have ff : Boxed W0 w.heap.size 34 (.int .i64 f) := by rw [hW0]; exact Boxed.new _ _ _
  have bb : Below w.heap.size w W0 := by rw [hW0]; exact (Below.refl _ w).alloc (Nat.le_refl _) _
  have pa := ((Abx.new W0 (.bool c) (.slice sa sz.length sc) (.slice da dz.length dc)).al (.cells #[.bool c', .slice sa' sz'.length sc', .slice da' dz'.length dc'] 24)).al (.cells #[.bool false, .slice none 0 0, .slice none 0 0] 24)
  have qa := (Abx.new1 W0 (.cells #[.bool c, .slice sa sz.length sc, .slice da dz.length dc] 24) (.bool c') (.slice sa' sz'.length sc') (.slice da' dz'.length dc')).al (.cells #[.bool false, .slice none 0 0, .slice none 0 0] 24)
  have ra := Abx.new1 (W0.alloc (.cells #[.bool c, .slice sa sz.length sc, .slice da dz.length dc] 24)) (.cells #[.bool c', .slice sa' sz'.length sc', .slice da' dz'.length dc'] 24) (.bool false) (.slice none 0 0) (.slice none 0 0)
  rw [World.size_alloc] at ra
  have fa := ((ff.alloc (.cells #[.bool c, .slice sa sz.length sc, .slice da dz.length dc] 24)).alloc (.cells #[.bool c', .slice sa' sz'.length sc', .slice da' dz'.length dc'] 24)).alloc (.cells #[.bool false, .slice none 0 0, .slice none 0 0] 24)
  obtain ⟨V0, hV0⟩ : ∃ V0, V0 = (((W0.alloc (.cells #[.bool c, .slice sa sz.length sc, .slice da dz.length dc] 24)).alloc (.cells #[.bool c', .slice sa' sz'.length sc', .slice da' dz'.length dc'] 24)).alloc (.cells #[.bool false, .slice none 0 0, .slice none 0 0] 24)).alloc (.cells #[.int .i64 f, .int .i64 g] 34) := ⟨_, rfl⟩
  have HB0 : Hid (Below w.heap.size w V0) := by rw [hV0]; exact (((bb.alloc bb.size _).alloc (by simp; omega) _).alloc (by simp; omega) _).alloc (by simp; omega) _
  rw [hs0] at pa qa ra
  have Pa0 : Hid (Abx V0 (w.heap.size + 1) (.bool c) (.slice sa sz.length sc) (.slice da dz.length dc)) := by rw [hV0]; exact pa.al _
  have Qb0 : Hid (Abx V0 (w.heap.size + 1 + 1) (.bool c') (.slice sa' sz'.length sc') (.slice da' dz'.length dc')) := by rw [hV0]; exact qa.al _
  have Rr0 : Hid (Abx V0 (w.heap.size + 1 + 1 + 1) (.bool false) (.slice none 0 0) (.slice none 0 0)) := by rw [hV0]; exact ra.al _
  have Ff0 : Hid (Boxed V0 w.heap.size 34 (.int .i64 f)) := by rw [hV0]; exact fa.alloc _
  have hfi : IsInts V0.heap.size V0 (some ⟨w.heap.size + 1 + 1 + 1 + 1, 0, none⟩) [f, g] := by
    have := (new_lit (((W0.alloc (.cells #[.bool c, .slice sa sz.length sc, .slice da dz.length dc] 24)).alloc (.cells #[.bool c', .slice sa' sz'.length sc', .slice da' dz'.length dc'] 24)).alloc (.cells #[.bool false, .slice none 0 0, .slice none 0 0] 24)) 34 [f, g]).ints
    simp only [World.size_alloc, hs0] at this
    rw [hV0]
    simp only [World.size_alloc, hs0]
    exact this
  have hC := pcheck_any c sa sc sz da dc dz c' sa' sc' sz' da' dc' dz' (some ⟨w.heap.size + 1 + 1 + 1 + 1, 0, none⟩) 2 [f, g] 2 rfl (by omega) h1 h2 h1' h2' V0 ((HI.out.1.1.1.below HB0.out).mono HB0.out.size) ((HI.out.1.2.below HB0.out).mono HB0.out.size) ((HI.out.2.1.1.below HB0.out).mono HB0.out.size) ((HI.out.2.2.below HB0.out).mono HB0.out.size) hfi
  rw [hW0] at hV0 pa qa ra fa
  have HW : Hid (V0 = _) := hV0
  have p0 := pa.c0
  have p1 := pa.c1
  have p2 := pa.c2
  have q0 := qa.c0
  have q1 := qa.c1
  have q2 := qa.c2
  have fc := fa.cell
  clear hs hd hs' hd' T T' hV0 hfi pa qa ra fa ff bb hs0 hW0 W0
  go_enter Try.func10, Try.ntmps10
  go_wp2_with fail
  rw [← HW.out]
  refine hC.mono ?_
  rintro e w1 ⟨rfl, hb⟩
  have HB1 : Hid (Below w.heap.size w w1) := HB0.out.trans (hb.mono HB0.out.size)
  have Pa1 : Hid (Abx w1 (w.heap.size + 1) _ _ _) := Pa0.out.go hb
  have Qb1 : Hid (Abx w1 (w.heap.size + 1 + 1) _ _ _) := Qb0.out.go hb
  have Rr1 : Hid (Abx w1 (w.heap.size + 1 + 1 + 1) (.bool false) (.slice none 0 0) (.slice none 0 0)) := Rr0.out.go hb
  have Ff1 : Hid (Boxed w1 w.heap.size 34 (.int .i64 f)) := blk_to Ff0.out hb
  clear hb hC p0 p1 p2 q0 q1 q2 HW fc
  by_cases he : pcE [f, g] c sz dz c' sz' dz' = 0
  · obtain ⟨hf1, hfl⟩ := ni_pc0 he
    obtain ⟨hfa, hfb⟩ := flawsE_zero.1 hfl
    have HF : Hid (¬ ((f < 1 ∨ 16 < f) ∨ g < 1 ∨ 16 < g) ∧ flawsE c sz dz c' sz' dz' = 0 ∧ flawE c sz dz = 0 ∧ flawE c' sz' dz' = 0) := ⟨hf1, hfl, hfa, hfb⟩
    rw [he, errV_zero]
    have hl6 := (errOf_zero.1 (flawE_zero hfa).1).1
    have hl6' := (errOf_zero.1 (flawE_zero hfb).1).1
    clear he hf1 hfl hfa hfb hf hg
    have p0 := Pa1.out.c0
    have p1 := Pa1.out.c1
    have p2 := Pa1.out.c2
    have q0 := Qb1.out.c0
    have q1 := Qb1.out.c1
    have q2 := Qb1.out.c2
    have hcm := pcommon_any sa sc sz sa' sc' sz' h1 h1' w1 ((HI.out.1.1.1.below HB1.out).mono HB1.out.size) ((HI.out.2.1.1.below HB1.out).mono HB1.out.size)
    go_wp2_with fail
    refine hcm.mono ?_
    rintro e w1' ⟨vL, rfl, hvL, hw1⟩
    obtain rfl := hw1.symm
    obtain ⟨w2, hw2⟩ : ∃ w2, w2 = w1.alloc (.cells #[.int .i64 vL] 3) := ⟨_, rfl⟩
    have hb : Below w1.heap.size w1 w2 := by rw [hw2]; exact (Below.refl _ w1).alloc (Nat.le_refl _) _
    have Lb2 : Hid (Boxed w2 w1.heap.size 3 (.int .i64 vL)) := by rw [hw2]; exact Boxed.new _ _ _
    have hsz12 : Hid (w2.heap.size = w1.heap.size + 1) := by show _ = _; rw [hw2]; simp
    have HB2 : Hid (Below w.heap.size w w2) := HB1.out.trans (hb.mono HB1.out.size)
    have Pa2 : Hid (Abx w2 (w.heap.size + 1) _ _ _) := Pa1.out.go hb
    have Qb2 : Hid (Abx w2 (w.heap.size + 1 + 1) _ _ _) := Qb1.out.go hb
    have Rr2 : Hid (Abx w2 (w.heap.size + 1 + 1 + 1) (.bool false) (.slice none 0 0) (.slice none 0 0)) := Rr1.out.go hb
    have Ff2 : Hid (Boxed w2 w.heap.size 34 (.int .i64 f)) := blk_to Ff1.out hb
    have HW2 : Hid (w2 = _) := hw2
    have HVL : Hid (cmE sz sz' = 0 → vL = inN sz) := hvL
    clear hcm hb hw2 hvL p0 p1 p2 q0 q1 q2
    by_cases hce : cmE sz sz' = 0
    · rw [hce, errV_zero]
      have hlens : sz.length ≠ 0 ∧ sz'.length ≠ 0 ∧ inN sz = nth sz' 0 := by
        unfold cmE at hce
        by_cases h : sz.length = 0 ∨ sz'.length = 0
        · rw [if_pos h] at hce; exact absurd hce (by decide)
        · rw [if_neg h] at hce
          by_cases h2 : inN sz = nth sz' 0
          · exact ⟨fun e => h (.inl e), fun e => h (.inr e), h2⟩
          · rw [if_pos h2] at hce; exact absurd hce (by decide)
      have hvL := HVL.out hce
      have hLn : 0 ≤ inN sz ∧ inN sz ≤ 4096 := ((errOf_zero.1 (flawE_zero HF.out.2.2.1).1).2.1).nth _
      obtain ⟨L, hL⟩ : ∃ L : Nat, (L : Int) = inN sz := ⟨_, Int.toNat_of_nonneg hLn.1⟩
      have hL4 : L ≤ 4096 := by omega
      have HLN : Hid (sz.length ≠ 0 ∧ sz'.length ≠ 0 ∧ inN sz = nth sz' 0 ∧ (L : Int) = inN sz) := ⟨hlens.1, hlens.2.1, hlens.2.2, hL⟩
      rw [hvL, ← hL] at HW2 Lb2
      rw [hvL, ← hL]
      obtain ⟨b, off, rfl, hbs, hcs⟩ := HI.out.1.1.1.at (q := 0) (by omega)
      obtain ⟨b', off', rfl, hbs', hcs'⟩ := HI.out.2.1.1.at (q := 0) (by omega)
      obtain ⟨m, hm⟩ : ∃ m, sz.length = m + 1 := ⟨sz.length - 1, by omega⟩
      obtain ⟨m', hm'⟩ : ∃ m', sz'.length = m' + 1 := ⟨sz'.length - 1, by omega⟩
      have hcap : m + 1 ≤ sc := by rw [← hm]; exact HI.out.1.1.2
      have hcap' : m' + 1 ≤ sc' := by rw [← hm']; exact HI.out.2.1.2
      clear hce hvL hLn hL hlens hcs hcs' HVL
      rw [hm] at hl6
      rw [hm'] at hl6'
      have p0 := Pa2.out.c0
      have p1 := Pa2.out.c1
      have p2 := Pa2.out.c2
      have q0 := Qb2.out.c0
      have q1 := Qb2.out.c1
      have q2 := Qb2.out.c2
      rw [hm] at p1
      rw [hm'] at q1
      go_wp2_with fail
      rw [← HW2.out]
      have t1 : (1 : Int) ≤ (m' : Int) + 1 := by omega
      have t2 : m ≤ sc := by omega
      obtain ⟨ta, hta⟩ : ∃ ta, ta = (if sc' = 1 then some (⟨b', off', none⟩ : Addr) else some ⟨b', off' + 1, none⟩) := ⟨_, rfl⟩
      have HTA : Hid (ta = (if sc' = 1 then some (⟨b', off', none⟩ : Addr) else some ⟨b', off' + 1, none⟩)) := hta
      have hta' := hta.symm
      clear hta
      have wm : IntKind.i64.wrap (m : Int) = (m : Int) := IntWalk.i64_in _ (by omega)
      refine anyT_begin 12 (fun w' => w'.cell? ⟨w.heap.size + 1, 1, none⟩ = some (.slice (some ⟨b, off, none⟩) (m + 1) sc) ∧ w'.cell? ⟨w.heap.size + 1 + 1, 1, none⟩ = some (.slice (some ⟨b', off', none⟩) (m' + 1) sc')) 13 #[false, false, false, false, false, false, false, false, false, false, false, false, false] (by kernel_rfl) rfl rfl ?_
      refine anyT_put 0 42 ?rv0 #[true, false, false, false, false, false, false, false, false, false, false, false, false] rfl rfl rfl (by kernel_rfl) (by kernel_rfl) (by kernel_rfl) (fun _ _ _ h => h) (by decide) ?ry0 (fun _ => ⟨p1, q1⟩) ?rm0
      case ry0 => first | exact Or.inl ⟨by rfl, by intro w'; go_simp; first | done | rfl⟩
      case rm0 =>
      simp only [Act.put, List.setIfInBounds_toArray, List.set_cons_zero, List.set_cons_succ]
      refine anyT_take 1 43 ?rv1 #[true, true, false, false, false, false, false, false, false, false, false, false, false] rfl rfl rfl (by kernel_rfl) (by kernel_rfl) (by kernel_rfl) (fun _ _ _ h => h) (by kernel_rfl) (by decide) (by kernel_rfl) ?ry1 (⟨p1, q1⟩) ?rm1
      case ry1 => first | exact Or.inl ⟨by rfl, by intro w' hw'; (try dsimp only at hw'); go_simp; first | done | rfl⟩
      case rm1 =>
      simp only [Act.put, List.setIfInBounds_toArray, List.set_cons_zero, List.set_cons_succ]
      refine anyT_put 2 44 ?rv2 #[true, true, true, false, false, false, false, false, false, false, false, false, false] rfl rfl rfl (by kernel_rfl) (by kernel_rfl) (by kernel_rfl) (fun _ _ _ h => h) (by decide) ?ry2 (fun _ => ⟨p1, q1⟩) ?rm2
      case ry2 => first | exact Or.inl ⟨by rfl, by intro w'; go_simp; first | done | rfl⟩
      case rm2 =>
      simp only [Act.put, List.setIfInBounds_toArray, List.set_cons_zero, List.set_cons_succ]
      refine anyT_take 3 45 ?rv3 #[true, true, true, true, false, false, false, false, false, false, false, false, false] rfl rfl rfl (by kernel_rfl) (by kernel_rfl) (by kernel_rfl) (fun _ _ _ h => h) (by kernel_rfl) (by decide) (by kernel_rfl) ?ry3 (⟨p1, q1⟩) ?rm3
      case ry3 => first | exact Or.inl ⟨by rfl, by intro w' hw'; (try dsimp only at hw'); go_simp; first | done | rfl⟩
      case rm3 =>
      simp only [Act.put, List.setIfInBounds_toArray, List.set_cons_zero, List.set_cons_succ]
      refine anyT_put 4 46 ?rv4 #[true, true, true, true, true, false, false, false, false, false, false, false, false] rfl rfl rfl (by kernel_rfl) (by kernel_rfl) (by kernel_rfl) (fun _ _ _ h => h) (by decide) ?ry4 (fun _ => ⟨p1, q1⟩) ?rm4
      case ry4 => first | exact Or.inl ⟨by rfl, by intro w'; go_simp; first | done | rfl⟩
      case rm4 =>
      simp only [Act.put, List.setIfInBounds_toArray, List.set_cons_zero, List.set_cons_succ]
      refine anyT_put 5 47 ?rv5 #[true, true, true, true, true, true, false, false, false, false, false, false, false] rfl rfl rfl (by kernel_rfl) (by kernel_rfl) (by kernel_rfl) (fun _ _ _ h => h) (by decide) ?ry5 (fun _ => ⟨p1, q1⟩) ?rm5
      case ry5 => first | exact Or.inl ⟨by rfl, by intro w'; go_simp; first | done | rfl⟩
      case rm5 =>
      simp only [Act.put, List.setIfInBounds_toArray, List.set_cons_zero, List.set_cons_succ]
      refine anyT_put 6 48 ?rv6 #[true, true, true, true, true, true, true, false, false, false, false, false, false] rfl rfl rfl (by kernel_rfl) (by kernel_rfl) (by kernel_rfl) (fun _ _ _ h => h) (by decide) ?ry6 (fun _ => ⟨p1, q1⟩) ?rm6
      case ry6 => first | exact Or.inl ⟨by rfl, by intro w'; go_simp; first | done | rfl⟩
      case rm6 =>
      simp only [Act.put, List.setIfInBounds_toArray, List.set_cons_zero, List.set_cons_succ]
      refine anyT_put 7 49 ?rv7 #[true, true, true, true, true, true, true, true, false, false, false, false, false] rfl rfl rfl (by kernel_rfl) (by kernel_rfl) (by kernel_rfl) (fun _ _ _ h => h) (by decide) ?ry7 (fun _ => ⟨p1, q1⟩) ?rm7
      case ry7 => first | exact Or.inl ⟨by rfl, by intro w'; go_simp; first | done | rfl⟩
      case rm7 =>
      simp only [Act.put, List.setIfInBounds_toArray, List.set_cons_zero, List.set_cons_succ]
      refine anyT_take 8 50 ?rv8 #[true, true, true, true, true, true, true, true, true, false, false, false, false] rfl rfl rfl (by kernel_rfl) (by kernel_rfl) (by kernel_rfl) (fun _ _ _ h => h) (by kernel_rfl) (by decide) (by kernel_rfl) ?ry8 (⟨p1, q1⟩) ?rm8
      case ry8 => first | exact Or.inl ⟨by rfl, by intro w' hw'; (try dsimp only at hw'); go_simp; first | done | rfl⟩
      case rm8 =>
      simp only [Act.put, List.setIfInBounds_toArray, List.set_cons_zero, List.set_cons_succ]
      refine anyT_put 9 51 ?rv9 #[true, true, true, true, true, true, true, true, true, true, false, false, false] rfl rfl rfl (by kernel_rfl) (by kernel_rfl) (by kernel_rfl) (fun _ _ _ h => h) (by decide) ?ry9 (fun _ => ⟨p1, q1⟩) ?rm9
      case ry9 => first | exact Or.inl ⟨by rfl, by intro w'; go_simp; first | done | rfl⟩
      case rm9 =>
      simp only [Act.put, List.setIfInBounds_toArray, List.set_cons_zero, List.set_cons_succ]
      refine anyT_one 10 #[true, true, true, true, true, true, true, true, true, true, true, false, false] (by kernel_rfl) rfl rfl (fun K hK => ?_)
      go_simp
      obtain ⟨w3, hw3⟩ : ∃ w3, w3 = (w2.alloc (.cells #[.slice (some ⟨b, off, none⟩) m sc, .slice ta m' (sc' - 1)] 22)).drew := ⟨_, rfl⟩
      rw [← hw3]
      have hb3 : Below w2.heap.size w2 w3 := by (rw [hw3]; exact ((Below.refl _ w2).alloc (Nat.le_refl _) _).drew)
      have hbw3 : Below w.heap.size w w3 := HB2.out.trans (hb3.mono HB2.out.size)
      have hlt3 : w2.heap.size < w3.heap.size := by (rw [hw3]; show w2.heap.size < (w2.alloc _).heap.size; simp)
      have hcc := concat_any (sz.take m) (sz'.drop 1) m m' (by rw [List.length_take]; omega) (by rw [List.length_drop]; omega) (some ⟨b, off, none⟩) sc ta (sc' - 1) (by omega) (by omega) w2.heap.size 2 w3 hlt3 (by rw [hw3]; exact (two_cells _ _ _ _).1) (by rw [hw3]; exact (two_cells _ _ _ _).2) (is_take13 ((HI.out.1.1.1.below hbw3).mono hbw3.size) m) (by rw [HTA.out]; exact is_tail13 ((HI.out.2.1.1.below hbw3).mono hbw3.size) HI.out.2.1.2 HLN.out.2.1)
      clear hw3
      refine hK.out _ _ (fun _ => ⟨cell_to p1 hb3, cell_to q1 hb3⟩) ?_
      clear hK K
      refine anyT_one 11 #[true, true, true, true, true, true, true, true, true, true, true, true, false] (by kernel_rfl) rfl rfl (fun K hK => ?_)
      go_simp
      go_wp2_with (go_at_call 22; refine hcc.mono ?_; rintro e w4 ⟨ga, gc, rfl, hN, hb4⟩)
      have hb : Below w2.heap.size w2 w4 := hb3.trans (hb4.mono hb3.size)
      refine hK.out _ _ (fun _ => ⟨cell_to p1 hb, cell_to q1 hb⟩) ?_
      clear hK K
      refine anyT_one 12 #[true, true, true, true, true, true, true, true, true, true, true, true, true] (by kernel_rfl) rfl rfl (fun K hK => ?_)
      go_simp
      refine hK.out _ _ (fun h => absurd h (by decide)) ?_
      clear hK K
      refine anyT_done (by kernel_rfl) ?_
      have HB4 : Hid (Below w.heap.size w w4) := HB2.out.trans (hb.mono HB2.out.size)
      have Pa4 : Hid (Abx w4 (w.heap.size + 1) _ _ _) := Pa2.out.go hb
      have Qb4 : Hid (Abx w4 (w.heap.size + 1 + 1) _ _ _) := Qb2.out.go hb
      have Rr4 : Hid (Abx w4 (w.heap.size + 1 + 1 + 1) (.bool false) (.slice none 0 0) (.slice none 0 0)) := Rr2.out.go hb
      have Lb4 : Hid (Boxed w4 w1.heap.size 3 (.int .i64 (L : Nat))) := blk_to Lb2.out hb
      have Ff4 : Hid (Boxed w4 w.heap.size 34 (.int .i64 f)) := blk_to Ff2.out hb
      obtain ⟨S, hS⟩ : ∃ S, S = inS sz sz' := ⟨_, rfl⟩
      obtain ⟨n, hn⟩ : ∃ n, n = m + m' := ⟨_, rfl⟩
      have hS2 : S = sz.take m ++ sz'.drop 1 := by rw [hS]; unfold inS; rw [hm, Nat.add_sub_cancel]
      have HS : Hid (S = inS sz sz' ∧ S.length = n) := ⟨hS, by rw [hS2, hn, List.length_append, List.length_take, List.length_drop]; omega⟩
      have hn12 : n ≤ 12 := by omega
      rw [← hn]
      rw [← hS2] at hN
      have HM : Hid (MidC w3.heap.size w4.heap.size w4 ga S gc ∧ w.heap.size + 1 + 1 + 1 < w3.heap.size) := ⟨hN.midc, by have := Rr2.out.lt; omega⟩
      have hcount := count_any ga gc S (by rw [HS.out.2]; omega) w4 hN.ints.1
      rw [HS.out.2] at hcount
      clear hb hb3 hb4 hbw3 hlt3 hS hn hS2 hN hcc p0 p1 p2 q0 q1 q2 wm t1 t2 hta' HTA
      go_wp2_with fail
      refine hcount.mono ?_
      rintro e w5 ⟨rfl, hb⟩
      clear hcount
      have HB5 : Hid (Below w.heap.size w w5) := HB4.out.trans (hb.mono HB4.out.size)
      have Pa5 : Hid (Abx w5 (w.heap.size + 1) _ _ _) := Pa4.out.go hb
      have Qb5 : Hid (Abx w5 (w.heap.size + 1 + 1) _ _ _) := Qb4.out.go hb
      have Rr5 : Hid (Abx w5 (w.heap.size + 1 + 1 + 1) (.bool false) (.slice none 0 0) (.slice none 0 0)) := Rr4.out.go hb
      have Lb5 : Hid (Boxed w5 w1.heap.size 3 (.int .i64 (L : Nat))) := blk_to Lb4.out hb
      have Ff5 : Hid (Boxed w5 w.heap.size 34 (.int .i64 f)) := blk_to Ff4.out hb
      replace HM : Hid (MidC w3.heap.size w4.heap.size w5 ga S gc ∧ w.heap.size + 1 + 1 + 1 < w3.heap.size) := ⟨HM.out.1.go (Nat.le_refl _) hb, HM.out.2⟩
      have hsz45 := hb.size
      clear hb
      have HNE : Hid (inE f g c sz dz c' sz' dz' = _) := ni_E HF.out.1 HF.out.2.1 HLN.out.1 HLN.out.2.1 HLN.out.2.2.1
      by_cases he : errOf S = 0
      · obtain ⟨N, hN⟩ : ∃ N, N = (prod S).toNat := ⟨_, rfl⟩
        have hz := errOf_zero.1 he
        have h0N := prod_nonneg hz.2.1
        have HN : Hid ((N : Int) = prod S ∧ errOf S = 0 ∧ N = (prod S).toNat) := ⟨by omega, he, hN⟩
        have hN4 : N ≤ 4096 := by omega
        rw [cntOf_ok he, he, errV_zero, ← HN.out.1]
        clear he hN hz h0N
        have p0 := Pa5.out.c0
        have p1 := Pa5.out.c1
        have p2 := Pa5.out.c2
        have q0 := Qb5.out.c0
        have q1 := Qb5.out.c1
        have q2 := Qb5.out.c2
        rw [hm] at p1
        rw [hm'] at q1
        by_cases hch : ((c || c') && !tkC g) = true
        · have HE : Hid (inE f g c sz dz c' sz' dz' = 6) := by
            show _ = _
            rw [HNE.out, ← HS.out.1, if_neg (not_not_intro HN.out.2.1), if_pos (takes_bad.1 hch)]
          go_wp2_with fail
          refine (pairing_no g c c' hch w5).mono ?_
          rintro e w6 ⟨rfl, hb⟩
          have HB6 : Hid (Below w.heap.size w w6) := HB5.out.trans (hb.mono HB5.out.size)
          have Pa6 : Hid (Abx w6 (w.heap.size + 1) _ _ _) := Pa5.out.go hb
          have Qb6 : Hid (Abx w6 (w.heap.size + 1 + 1) _ _ _) := Qb5.out.go hb
          have Rr6 : Hid (Abx w6 (w.heap.size + 1 + 1 + 1) (.bool false) (.slice none 0 0) (.slice none 0 0)) := Rr5.out.go hb
          have Lb6 : Hid (Boxed w6 w1.heap.size 3 (.int .i64 (L : Nat))) := blk_to Lb5.out hb
          have Ff6 : Hid (Boxed w6 w.heap.size 34 (.int .i64 f)) := blk_to Ff5.out hb
          have Rr7 : Hid (Abx (w6.alloc (.cells #[.nilFunc] 55)) (w.heap.size + 1 + 1 + 1) (.bool false) (.slice none 0 0) (.slice none 0 0)) := Rr6.out.al _
          have HB7 : Hid (Below w.heap.size w (w6.alloc (.cells #[.nilFunc] 55))) := HB6.out.alloc HB6.out.size _
          clear hb hch p0 p1 p2 q0 q1 q2
          have r0 := Rr7.out.c0
          have r1 := Rr7.out.c1
          have r2 := Rr7.out.c2
          have f0 := Rr7.out.fr 0
          have f1 := Rr7.out.fr 1
          have f2 := Rr7.out.fr 2
          go_wp2_with fail
          have FF := Rr7.out.set3 (.bool false) (.slice none 0 0) (.slice none 0 0)
          have z0 := FF.c0
          have z1 := FF.c1
          have z2 := FF.c2
          exact bodyPost_ret (v := .tuple #[.agg #[.bool false, .slice none 0 0, .slice none 0 0], .iface 76 (.int .i64 6)]) (by simp [results, Try.results10, go_sem, z0, z1, z2]) rfl (ub13_no HE.out (by decide) (bel_set3 HB7.out (by omega) _ _ _))
        · have HC : Hid (¬ ((c = true ∨ c' = true) ∧ g ≠ 8 ∧ g ≠ 9)) := fun h => hch (takes_bad.2 h)
          have hch' : ((c || c') && !tkC g) = false := by simpa using hch
          go_wp2_with fail
          refine (pairing_ok g c c' hch' w5).mono ?_
          rintro e w6 ⟨v, rfl, hF, hb⟩
          have HB6 : Hid (Below w.heap.size w w6) := HB5.out.trans (hb.mono HB5.out.size)
          have Pa6 : Hid (Abx w6 (w.heap.size + 1) _ _ _) := Pa5.out.go hb
          have Qb6 : Hid (Abx w6 (w.heap.size + 1 + 1) _ _ _) := Qb5.out.go hb
          have Rr6 : Hid (Abx w6 (w.heap.size + 1 + 1 + 1) (.bool false) (.slice none 0 0) (.slice none 0 0)) := Rr5.out.go hb
          have Lb6 : Hid (Boxed w6 w1.heap.size 3 (.int .i64 (L : Nat))) := blk_to Lb5.out hb
          have Ff6 : Hid (Boxed w6 w.heap.size 34 (.int .i64 f)) := blk_to Ff5.out hb
          replace HM : Hid (MidC w3.heap.size w4.heap.size w6 ga S gc ∧ w.heap.size + 1 + 1 + 1 < w3.heap.size) := ⟨HM.out.1.go hsz45 hb, HM.out.2⟩
          have hsz56 := hb.size
          obtain ⟨k, d, rfl⟩ := hF.fn
          obtain ⟨w7, hw7⟩ : ∃ w7, w7 = w6.alloc (.cells #[.func (.func k) #[] #[.pointer (some ⟨d, 0, none⟩)]] 55) := ⟨_, rfl⟩
          have hb7 : Below w6.heap.size w6 w7 := by rw [hw7]; exact (Below.refl _ w6).alloc (Nat.le_refl _) _
          clear hb
          have hb := hb7
          have HB7 : Hid (Below w.heap.size w w7) := HB6.out.trans (hb.mono HB6.out.size)
          have Pa7 : Hid (Abx w7 (w.heap.size + 1) _ _ _) := Pa6.out.go hb
          have Qb7 : Hid (Abx w7 (w.heap.size + 1 + 1) _ _ _) := Qb6.out.go hb
          have Rr7 : Hid (Abx w7 (w.heap.size + 1 + 1 + 1) (.bool false) (.slice none 0 0) (.slice none 0 0)) := Rr6.out.go hb
          have Lb7 : Hid (Boxed w7 w1.heap.size 3 (.int .i64 (L : Nat))) := blk_to Lb6.out hb
          have Ff7 : Hid (Boxed w7 w.heap.size 34 (.int .i64 f)) := blk_to Ff6.out hb
          have HW7 : Hid (w7 = _) := hw7
          have HK : Hid (PairF w6.heap.size w7 (.func (.func k) #[] #[.pointer (some ⟨d, 0, none⟩)]) g (c == c') ∧ w7.cell? ⟨w6.heap.size, 0, none⟩ = some (.func (.func k) #[] #[.pointer (some ⟨d, 0, none⟩)]) ∧ MidC w3.heap.size w4.heap.size w7 ga S gc ∧ w6.heap.size + 1 = w7.heap.size) := ⟨hF.bel hb7, by rw [hw7]; exact cell_of_one (MapKept.heap_alloc w6 _).1, HM.out.1.go (by omega) hb7, by rw [hw7]; simp⟩
          clear hw7 hb7 hb hch hch' hF p0 p1 p2 q0 q1 q2
          have lb := Lb7.out.cell
          rw [HW7.out] at lb
          go_upto_if 77 with fail
          rw [← HW7.out]
          clear lb
          go_cut [16] (fun s16 wc => wc = w7 ∧ ¬ (inN sz = 0 ∧ neutE f ≠ 0))
          case first =>
            by_cases hL0 : L = 0
            · have t0 : ((L : Int) == 0) = true := by simp [hL0]
              have fc := Ff7.out.cell
              by_cases hne : neutE f = 0
              · have HNN : Hid (¬ (inN sz = 0 ∧ neutE f ≠ 0)) := fun h => h.2 hne
                have hn := neut_any f w7
                rw [hne, errV_zero] at hn
                clear hne hL0
                go_wp2_with fail
                refine hn.mono ?_
                rintro e u ⟨rfl, hu⟩
                obtain rfl := hu.symm
                go_wp2_with fail
                go_meet
                exact ⟨rfl, HNN.out⟩
              · have HE : Hid (inE f g c sz dz c' sz' dz' = neutE f) := by
                  show _ = _
                  rw [HNE.out, ← HS.out.1, if_neg (not_not_intro HN.out.2.1), if_neg HC.out, if_pos ⟨by rw [← HLN.out.2.2.2, hL0]; rfl, hne⟩]
                have hn := neut_any f w7
                rw [errV_pos hne] at hn
                have HX : Hid (neutE f ≠ 0) := hne
                clear hne hL0
                go_wp2_with fail
                refine hn.mono ?_
                rintro e u ⟨rfl, hu⟩
                obtain rfl := hu.symm
                have r0 := Rr7.out.c0
                have r1 := Rr7.out.c1
                have r2 := Rr7.out.c2
                have f0 := Rr7.out.fr 0
                have f1 := Rr7.out.fr 1
                have f2 := Rr7.out.fr 2
                go_wp2_with fail
                have FF := Rr7.out.set3 (.bool false) (.slice none 0 0) (.slice none 0 0)
                have z0 := FF.c0
                have z1 := FF.c1
                have z2 := FF.c2
                exact bodyPost_ret (v := .tuple #[.agg #[.bool false, .slice none 0 0, .slice none 0 0], .iface 76 (.int .i64 (neutE f))]) (by simp [results, Try.results10, go_sem, z0, z1, z2]) rfl (ub13_no HE.out HX.out (bel_set3 HB7.out (by omega) _ _ _))
            · have t0 : ((L : Int) == 0) = false := by simp [hL0]
              have HNN : Hid (¬ (inN sz = 0 ∧ neutE f ≠ 0)) := fun h => hL0 (by have := h.1; rw [← HLN.out.2.2.2] at this; omega)
              clear hL0
              go_wp2_with fail
              go_meet
              exact ⟨rfl, HNN.out⟩
          case rest =>
            obtain ⟨hwc, hnn⟩ := hcut
            obtain rfl := hwc.symm
            have HNN : Hid (¬ (inN sz = 0 ∧ neutE f ≠ 0)) := hnn
            clear hnn hwc
            have hz' := (flawE_zero HF.out.2.2.2)
            obtain ⟨A, hA⟩ : ∃ A : Nat, (A : Int) = prod (sz'.drop 1) := ⟨_, Int.toNat_of_nonneg (prod_nonneg ((errOf_zero.1 hz'.1).2.1.drop 1))⟩
            have HA : Hid ((A : Int) = prod (sz'.drop 1)) := hA
            have hps : Hid (∀ w', Below w7.heap.size w7 w' → Calls Try.prog 26 #[.slice (some ⟨b', off', none⟩) (m' + 1) sc'] w' fun e w'' => e = .returned (.int .i64 (A : Nat)) ∧ w'' = w') := fun w' hB => by
              have hBw : Below w.heap.size w w' := HB7.out.trans (hB.mono HB7.out.size)
              have := pstep_any (some ⟨b', off', none⟩) sc' sz' (by have := HLN.out.2.1; omega) hz'.1 w.heap.size w' (HI.out.2.1.below hBw)
              rw [hm', show stp sz' 0 = (A : Int) from hA.symm] at this
              exact this
            have hmk := run_make_row' (P := Try.prog) 22 3 (.int .i64 0) 8 Try.underlying22 Try.infoInt rfl .i64 .i64 L (by omega) (by omega)
            have lb := Lb7.out.cell
            have q1 := Qb7.out.c1
            rw [hm'] at q1
            clear hz' hA
            go_wp2_with fail
            refine anyT_begin 8 (fun w' => w'.cell? ⟨w1.heap.size, 0, none⟩ = some (.int .i64 (L : Nat)) ∧ w'.cell? ⟨w.heap.size + 1 + 1, 1, none⟩ = some (.slice (some ⟨b', off', none⟩) (m' + 1) sc')) 9 #[false, false, false, false, false, false, false, false, false] (by kernel_rfl) rfl rfl ?_
            refine anyT_take 0 87 ?rv13 #[true, false, false, false, false, false, false, false, false] rfl rfl rfl (by kernel_rfl) (by kernel_rfl) (by kernel_rfl) (fun _ _ _ h => h) (by kernel_rfl) (by decide) (by kernel_rfl) ?ry13 (⟨lb, q1⟩) ?rm13
            case ry13 => first | exact Or.inl ⟨by rfl, by intro w' hw'; (try dsimp only at hw'); go_simp; first | done | rfl⟩
            case rm13 =>
            simp only [Act.put, List.setIfInBounds_toArray, List.set_cons_zero, List.set_cons_succ]
            refine anyT_put 2 89 ?rv14 #[true, false, true, false, false, false, false, false, false] rfl rfl rfl (by kernel_rfl) (by kernel_rfl) (by kernel_rfl) (fun _ _ _ h => h) (by decide) ?ry14 (fun _ => ⟨lb, q1⟩) ?rm14
            case ry14 => first | exact Or.inl ⟨by rfl, by intro w'; go_simp; first | done | rfl⟩
            case rm14 =>
            simp only [Act.put, List.setIfInBounds_toArray, List.set_cons_zero, List.set_cons_succ]
            refine anyT_take 3 90 ?rv15 #[true, false, true, true, false, false, false, false, false] rfl rfl rfl (by kernel_rfl) (by kernel_rfl) (by kernel_rfl) (fun _ _ _ h => h) (by kernel_rfl) (by decide) (by kernel_rfl) ?ry15 (⟨lb, q1⟩) ?rm15
            case ry15 => first | exact Or.inl ⟨by rfl, by intro w' hw'; (try dsimp only at hw'); go_simp; first | done | rfl⟩
            case rm15 =>
            simp only [Act.put, List.setIfInBounds_toArray, List.set_cons_zero, List.set_cons_succ]
            refine free4 8 2 6 rfl 1 4 5 6 88 91 18 19 (fun x1 x4 y5 y6 => #[true, x1, true, true, x4, y5, y6, false, false]) (St18 w7.drew L (A : Nat)) (by kernel_rfl) (by intros; rfl) (by intros; rfl) (by intros; rfl) (by intros; rfl) ?hx ?h1 ?h4 ?h5 ?h6 ?h0 rfl ?hinit
            case hx => (intro x1 x4 y5 y6 v88 v91 v18 v19 w' h; have hb : Below w7.heap.size w7 w' := (Below.refl _ w7).drew.trans h.1; exact ⟨cell_to lb hb, cell_to q1 hb⟩)
            case h1 => (intro x4 y5 y6 v88 v91 v18 v19 w' hst; refine op_at 1 rfl (fun K hK => ?_); simp only [put4, Act.put, List.setIfInBounds_toArray, List.set_cons_zero, List.set_cons_succ]; go_simp; exact hK.out _ _ ⟨_, rfl, hst.m1⟩)
            case h4 => (intro x1 y5 y6 v88 v91 v18 v19 w' hst; refine op_at 4 rfl (fun K hK => ?_); simp only [put4, Act.put, List.setIfInBounds_toArray, List.set_cons_zero, List.set_cons_succ]; go_simp; go_wp2_with (go_at_call 26; refine (hps.out w' ((Below.refl _ w7).drew.trans hst.1)).mono ?_; rintro e w2' ⟨rfl, rfl⟩); exact hK.out _ _ ⟨_, rfl, hst.m4⟩)
            case h5 => (intro x1 x4 y6 v88 v91 v18 v19 w' hst; refine op_at 5 rfl (fun K hK => ?_); simp only [put4, Act.put, List.setIfInBounds_toArray, List.set_cons_zero, List.set_cons_succ]; go_simp; exact hK.out _ _ ⟨_, rfl, hst.m5⟩)
            case h6 => (intro x1 x4 y5 v88 v91 v18 v19 w' hst; refine op_at 6 rfl (fun K hK => ?_); simp only [put4, Act.put, List.setIfInBounds_toArray, List.set_cons_zero, List.set_cons_succ]; go_simp; exact hK.out _ _ ⟨_, rfl, hst.m6⟩)
            case hinit => exact ⟨Below.refl _ _, fun h => absurd h (by decide), fun h => absurd h (by decide), fun h => absurd h (by decide), fun h => absurd h (by decide), fun h => absurd h (by decide), fun h => absurd h (by decide), fun h => absurd h (by decide)⟩
            intro v88 v91 v18 v19 w8 hst
            obtain ⟨hb8, hr, ha, hl, hp, n1, n2, n3⟩ := hst
            obtain ⟨Bl, rfl, l1, R8⟩ := hr rfl
            obtain rfl := ha rfl
            obtain ⟨b18, rfl, l2, B18⟩ := hl rfl
            obtain ⟨b19, rfl, l3, B19⟩ := hp rfl
            have n1 : Bl ≠ b18 := n1 rfl rfl
            have n2 : Bl ≠ b19 := n2 rfl rfl
            have n3 : b18 ≠ b19 := n3 rfl rfl
            have HB8 : Hid (Below w7.heap.size w7 w8) := (Below.refl _ w7).drew.trans hb8
            have X8 : Hid (Rw13 w8 Bl L (List.replicate L 0) ∧ Boxed w8 b18 22 (.slice none 0 0) ∧ Boxed w8 b19 3 (.int .i64 0) ∧ w7.heap.size ≤ Bl ∧ w7.heap.size ≤ b18 ∧ w7.heap.size ≤ b19) := ⟨R8, B18, B19, l1, l2, l3⟩
            have s1 := B18.cell
            have fz1 := B18.frozen
            clear hb8 hr ha hl hp R8 B18 B19 l1 l2 l3
            simp only [put4, Act.put, List.setIfInBounds_toArray, List.set_cons_zero, List.set_cons_succ]
            refine anyT_one 7 #[true, true, true, true, true, true, true, true, false] (by kernel_rfl) rfl rfl (fun K hK => ?_)
            go_simp
            have B19' : Boxed (w8.setCell ⟨b18, 0, none⟩ (.slice (some ⟨Bl, 0, none⟩) L L)) b19 3 (.int .i64 0) := (Below.heap_setCell w8 ⟨b18, 0, none⟩ (.slice (some ⟨Bl, 0, none⟩) L L) b19 (fun e => n3 e.symm)).trans X8.out.2.2.1
            have s2 := B19'.cell
            have fz2 := B19'.frozen
            have hb8s : Below w7.heap.size w7 (w8.setCell ⟨b18, 0, none⟩ (.slice (some ⟨Bl, 0, none⟩) L L)) := HB8.out.setCell (p := ⟨b18, 0, none⟩) X8.out.2.2.2.2.1 _
            refine hK.out _ _ (fun _ => ⟨cell_to lb hb8s, cell_to q1 hb8s⟩) ?_
            clear hK K
            refine anyT_one 8 #[true, true, true, true, true, true, true, true, true] (by kernel_rfl) rfl rfl (fun K hK => ?_)
            go_simp
            refine hK.out _ _ (fun h => absurd h (by decide)) ?_
            clear hK K
            refine anyT_done (by kernel_rfl) ?_
            obtain ⟨w9, hw9⟩ : ∃ w9, w9 = (w8.setCell ⟨b18, 0, none⟩ (.slice (some ⟨Bl, 0, none⟩) L L)).setCell ⟨b19, 0, none⟩ (.int .i64 (A : Nat)) := ⟨_, rfl⟩
            rw [← hw9]
            have hb : Below w7.heap.size w7 w9 := by rw [hw9]; exact hb8s.setCell (p := ⟨b19, 0, none⟩) X8.out.2.2.2.2.2 _
            have C18 : w9.cell? ⟨b18, 0, none⟩ = some (.slice (some ⟨Bl, 0, none⟩) L L) := by
              rw [hw9]
              exact cell_of_one ((Below.heap_setCell (w8.setCell ⟨b18, 0, none⟩ (.slice (some ⟨Bl, 0, none⟩) L L)) ⟨b19, 0, none⟩ (.int .i64 (A : Nat)) b18 n3).trans (one_setCell (u := .slice (some ⟨Bl, 0, none⟩) L L) X8.out.2.1))
            have C19 : w9.cell? ⟨b19, 0, none⟩ = some (.int .i64 (A : Nat)) := by
              rw [hw9]
              exact cell_of_one (one_setCell (u := .int .i64 (A : Nat)) B19')
            have R9 : Rw13 w9 Bl L (List.replicate L 0) := by
              rw [hw9]
              exact ⟨X8.out.1.1, X8.out.1.2.of_block ((Below.heap_setCell (w8.setCell ⟨b18, 0, none⟩ (.slice (some ⟨Bl, 0, none⟩) L L)) ⟨b19, 0, none⟩ (.int .i64 (A : Nat)) Bl n2).trans (Below.heap_setCell w8 ⟨b18, 0, none⟩ (.slice (some ⟨Bl, 0, none⟩) L L) Bl n1))⟩
            have hb' := hb
            have HB9 : Hid (Below w.heap.size w w9) := HB7.out.trans (hb.mono HB7.out.size)
            have Pa9 : Hid (Abx w9 (w.heap.size + 1) _ _ _) := Pa7.out.go hb
            have Qb9 : Hid (Abx w9 (w.heap.size + 1 + 1) _ _ _) := Qb7.out.go hb
            have Rr9 : Hid (Abx w9 (w.heap.size + 1 + 1 + 1) (.bool false) (.slice none 0 0) (.slice none 0 0)) := Rr7.out.go hb
            have Lb9 : Hid (Boxed w9 w1.heap.size 3 (.int .i64 (L : Nat))) := blk_to Lb7.out hb
            have Ff9 : Hid (Boxed w9 w.heap.size 34 (.int .i64 f)) := blk_to Ff7.out hb
            have HQ : Hid (w9.cell? ⟨b18, 0, none⟩ = some (.slice (some ⟨Bl, 0, none⟩) L L) ∧ w9.cell? ⟨b19, 0, none⟩ = some (.int .i64 (A : Nat)) ∧ Rw13 w9 Bl L (List.replicate L 0) ∧ w7.heap.size ≤ Bl ∧ (Bl ≠ b18 ∧ Bl ≠ b19) ∧ PairF w6.heap.size w9 (.func (.func k) #[] #[.pointer (some ⟨d, 0, none⟩)]) g (c == c') ∧ w9.cell? ⟨w6.heap.size, 0, none⟩ = some (.func (.func k) #[] #[.pointer (some ⟨d, 0, none⟩)]) ∧ MidC w3.heap.size w4.heap.size w9 ga S gc) := ⟨C18, C19, R9, X8.out.2.2.2.1, ⟨n1, n2⟩, HK.out.1.go hb, cell_to HK.out.2.1 hb, HK.out.2.2.1.go (by have := HK.out.2.2.2; omega) hb⟩
            have hw6s := HK.out.2.2.2
            have hlw1 := Lb7.out.lt
            have hlR := Rr7.out.lt
            clear hw9 hb hb' hb8s C18 C19 R9 B19' s1 s2 fz1 fz2 n1 n2 n3 lb q1 hmk HB8 X8 hps HW7
            have hask : ∀ i, i < N → ∀ w', (w9.grownBy w' (some Bl) ∧ ∃ xs, Rw13 w' Bl L xs) → Calls Try.prog 28 (.int .i64 (i : Nat) :: [.pointer (some ⟨b19, 0, none⟩), .pointer (some ⟨w1.heap.size, 0, none⟩), .pointer (some ⟨b18, 0, none⟩), .pointer (some ⟨w6.heap.size, 0, none⟩), .pointer (some ⟨w.heap.size + 1, 0, none⟩), .pointer (some ⟨w.heap.size + 1 + 1, 0, none⟩), .pointer (some ⟨w.heap.size, 0, none⟩)]).toArray w' (AskJ (fun u => w9.grownBy u (some Bl) ∧ ∃ xs, Rw13 u Bl L xs) (fun i => fdV f (inL g c sz dz c' sz' dz' (cr S i))) (fun i => inX f g c sz dz c' sz' dz' (cr S i)) i w9.heap.size w') := fun i hi w' hJ => by
              obtain ⟨hG, xs, hR⟩ := hJ
              have hpi : (i : Int) < prod (inS sz sz') := by rw [← HS.out.1, ← HN.out.1]; omega
              have hei : errOf (inS sz sz') = 0 := by rw [← HS.out.1]; exact HN.out.2.1
              obtain ⟨o1, o2⟩ := in_at (dz := dz) (dz' := dz') HLN.out.1 HLN.out.2.1 HLN.out.2.2.1 hei HLN.out.2.2.2 HA.out hpi
              obtain ⟨e1, e2⟩ := ni_at (f := f) (g := g) (c := c) (dz := dz) (c' := c') (dz' := dz') HLN.out.1 HLN.out.2.1 HLN.out.2.2.1 hei HLN.out.2.2.2 HA.out hpi
              have hA4 : A ≤ 4096 := by
                have hp := (cr_parts (s := sz.take (sz.length - 1)) (s' := sz'.drop 1) hei HA.out hpi).2.2.2
                have hz := (errOf_zero.1 hei).2.2
                rw [show inS sz sz' = sz.take (sz.length - 1) ++ sz'.drop 1 from rfl, prod_append, ← HA.out] at hz
                have h5 : (1 : Int) * (A : Int) ≤ prod (sz.take (sz.length - 1)) * (A : Int) := Int.mul_le_mul_of_nonneg_right (by have h0 := Int.lt_of_le_of_lt (Int.natCast_nonneg _) hp; omega) (by omega)
                omega
              have hdl := (flawE_zero HF.out.2.2.1).2.1
              have hdl' := (flawE_zero HF.out.2.2.2).2.1
              have hz1 := (errOf_zero.1 (flawE_zero HF.out.2.2.1).1)
              have hz2 := (errOf_zero.1 (flawE_zero HF.out.2.2.2).1)
              have hI1 := HI.out.1.2.below HB9.out
              have hI2 := HI.out.2.2.below HB9.out
              have hBl := HQ.out.2.2.2.1
              have hwBl : w.heap.size ≤ Bl := by have := HB7.out.size; omega
              have h0 := inner1_any f g (c == c') (fun h => HF.out.1 (.inr h)) i L A dz.length dz'.length o1 hA4 (by omega) hL4 (by omega) (by omega) b19 w1.heap.size b18 w6.heap.size (w.heap.size + 1) (w.heap.size + 1 + 1) w.heap.size Bl w6.heap.size w.heap.size _ da dc dz da' dc' dz' rfl rfl (fun k hk => by have := (o2 k).2.2 hk; omega) HT.out.1 HT.out.2 w'
                (gb_cell hG HQ.out.2.1 (fun e => HQ.out.2.2.2.2.1.2 e.symm)) (gb_cell hG Lb9.out.cell (by show w1.heap.size ≠ Bl; omega)) (gb_cell hG HQ.out.1 (fun e => HQ.out.2.2.2.2.1.1 e.symm)) (gb_cell hG HQ.out.2.2.2.2.2.2.1 (by show w6.heap.size ≠ Bl; omega)) (gb_cell hG Pa9.out.c2 (by show w.heap.size + 1 ≠ Bl; omega)) (gb_cell hG Qb9.out.c2 (by show w.heap.size + 1 + 1 ≠ Bl; omega)) (gb_cell hG Ff9.out.cell (by show w.heap.size ≠ Bl; omega))
                (fun e => HQ.out.2.2.2.2.1.2 e.symm) (by omega) (fun e => HQ.out.2.2.2.2.1.1 e.symm) (by omega) (by omega) (by omega) (by omega) (HQ.out.2.2.2.2.2.1.grown hG (by omega)) (by omega) hwBl (Nat.le_trans HB9.out.size hG.size) (gb_ints hG hI1 hwBl HB9.out.size) (gb_ints hG hI2 hwBl HB9.out.size) xs hR
              refine h0.mono ?_
              rintro e w'' ⟨v, rfl, hv, hg2, ys, hR2⟩
              have hlt9 := HQ.out.2.2.1.2.lt
              refine ⟨v, ?_, ?_, ⟨gb_trans hG hg2, ys, hR2⟩, hg2.size, fun b0 hb0 hl => hg2.block b0 hl (fun e => by have := Option.some.inj e; omega)⟩
              · show _ = Ending.returned (.tuple #[.int .i64 v, errV (inX f g c sz dz c' sz' dz' (cr S i))])
                rw [HS.out.1, e2]
              · show inX f g c sz dz c' sz' dz' (cr S i) = 0 → v = fdV f (inL g c sz dz c' sz' dz' (cr S i))
                rw [HS.out.1, e1, e2]
                exact hv
            have htell := ptell_any ga n gc N 28 [.pointer (some ⟨b19, 0, none⟩), .pointer (some ⟨w1.heap.size, 0, none⟩), .pointer (some ⟨b18, 0, none⟩), .pointer (some ⟨w6.heap.size, 0, none⟩), .pointer (some ⟨w.heap.size + 1, 0, none⟩), .pointer (some ⟨w.heap.size + 1 + 1, 0, none⟩), .pointer (some ⟨w.heap.size, 0, none⟩)] (enters_of Try.func28 (by kernel_rfl) rfl) (fun i => fdV f (inL g c sz dz c' sz' dz' (cr S i))) (fun i => inX f g c sz dz c' sz' dz' (cr S i)) hN4 w9 (fun u => w9.grownBy u (some Bl) ∧ ∃ xs, Rw13 u Bl L xs) ⟨gb_refl _ _, _, HQ.out.2.2.1⟩ (fun u1 u2 h k => ⟨gb_bel h.1 (Nat.le_refl _) k, by obtain ⟨xs, hx⟩ := h.2; exact ⟨xs, hx.1, hx.2.of_block (k.block Bl HQ.out.2.2.1.2.lt)⟩⟩) hask
            have HTl : Hid (Calls Try.prog 27 #[.slice ga n gc, .int .i64 (N : Nat), .func (.func 28) #[] #[.pointer (some ⟨b19, 0, none⟩), .pointer (some ⟨w1.heap.size, 0, none⟩), .pointer (some ⟨b18, 0, none⟩), .pointer (some ⟨w6.heap.size, 0, none⟩), .pointer (some ⟨w.heap.size + 1, 0, none⟩), .pointer (some ⟨w.heap.size + 1 + 1, 0, none⟩), .pointer (some ⟨w.heap.size, 0, none⟩)]] w9 (TlP (fun u => w9.grownBy u (some Bl) ∧ ∃ xs, Rw13 u Bl L xs) N (fun i => fdV f (inL g c sz dz c' sz' dz' (cr S i))) (fun i => inX f g c sz dz c' sz' dz' (cr S i)) ga n gc w9)) := htell
            have HZ : Hid (w6.heap.size + 1 = w7.heap.size ∧ w.heap.size + 1 + 1 + 1 < w7.heap.size) := ⟨hw6s, hlR⟩
            clear htell hask hw6s hlw1 hlR
            go_wp2_with fail
            refine HTl.out.mono ?_
            rintro e w10 (⟨i, hi, hne, rfl, hb⟩ | ⟨hall, ya, yc, rfl, hY, hb⟩)
            · have hbl := HQ.out.2.2.2.1
              have Rr10 : Hid (Abx w10 (w.heap.size + 1 + 1 + 1) (.bool false) (.slice none 0 0) (.slice none 0 0)) := abx_gb Rr9.out hb.1 (by have := HZ.out.2; omega)
              have HB10 : Hid (Below w.heap.size w w10) := HB9.out.grown hb.1 HB9.out.size (fun k e => by have := Option.some.inj e; have := HZ.out.2; omega)
              have HE : Hid (inE f g c sz dz c' sz' dz' = 6 ∧ inX f g c sz dz c' sz' dz' (cr S i) = 6) := by
                refine ⟨?_, ?_⟩
                · rw [HNE.out, ← HS.out.1, if_neg (not_not_intro HN.out.2.1), if_neg HC.out, if_neg HNN.out, if_neg]
                  exact fun h => hne (by simpa using List.all_eq_true.1 h i (List.mem_range.2 (by rw [← HN.out.2.2]; exact hi)))
                · have h6 : inX f g c sz dz c' sz' dz' (cr S i) = 0 ∨ inX f g c sz dz c' sz' dz' (cr S i) = 6 := by
                    unfold inX
                    split
                    · exact fdE_cases (by have := HF.out.1; omega) _
                    · exact .inr rfl
                  exact h6.resolve_left hne
              simp only [HE.out.2]
              replace HE : Hid (inE f g c sz dz c' sz' dz' = 6) := HE.out.1
              clear hb hne HTl hbl
              have r0 := Rr10.out.c0
              have r1 := Rr10.out.c1
              have r2 := Rr10.out.c2
              have f0 := Rr10.out.fr 0
              have f1 := Rr10.out.fr 1
              have f2 := Rr10.out.fr 2
              go_wp2_with fail
              have FF := Rr10.out.set3 (.bool false) (.slice none 0 0) (.slice none 0 0)
              have z0 := FF.c0
              have z1 := FF.c1
              have z2 := FF.c2
              exact bodyPost_ret (v := .tuple #[.agg #[.bool false, .slice none 0 0, .slice none 0 0], .iface 76 (.int .i64 6)]) (by simp [results, Try.results10, go_sem, z0, z1, z2]) rfl (ub13_no HE.out (by decide) (bel_set3 HB10.out (by omega) _ _ _))
            · have hbl := HQ.out.2.2.2.1
              have Rr10 : Hid (Abx w10 (w.heap.size + 1 + 1 + 1) (.bool false) (.slice none 0 0) (.slice none 0 0)) := abx_gb Rr9.out hb.1 (by have := HZ.out.2; omega)
              have HB10 : Hid (Below w.heap.size w w10) := HB9.out.grown hb.1 HB9.out.size (fun k e => by have := Option.some.inj e; have := HZ.out.2; omega)
              have HE : Hid (inE f g c sz dz c' sz' dz' = 0 ∧ upP (fun i => fdV f (inL g c sz dz c' sz' dz' (cr S i))) N = inD f g c sz dz c' sz' dz') := by
                refine ⟨?_, ?_⟩
                · rw [HNE.out, ← HS.out.1, if_neg (not_not_intro HN.out.2.1), if_neg HC.out, if_neg HNN.out, if_pos]
                  exact List.all_eq_true.2 fun i hi => by
                    have := hall i (by rw [HN.out.2.2]; exact List.mem_range.1 hi)
                    simpa using this
                · unfold upP inD TA
                  rw [← HS.out.1, ← HN.out.2.2]
              have h49 : w4.heap.size ≤ w9.heap.size := by have := HQ.out.2.2.1.2.lt; have := HZ.out.1; omega
              have HX : Hid (MidC w3.heap.size w4.heap.size w10 ga S gc ∧ NewC w9.heap.size w10 ya (inD f g c sz dz c' sz' dz') yc ∧ w9.heap.size ≤ w10.heap.size ∧ w4.heap.size ≤ w9.heap.size) := ⟨mid_gb HQ.out.2.2.2.2.2.2.2 h49 hb.1 (by have := HZ.out.1; omega), by rw [← HE.out.2]; exact hY, hb.1.size, h49⟩
              have hR3 := HM.out.2
              have hR9 := Rr9.out.lt
              have hw3 := HB2.out.size
              clear hb hall hY HTl hbl h49
              have r0 := Rr10.out.c0
              have r1 := Rr10.out.c1
              have r2 := Rr10.out.c2
              have f0 := Rr10.out.fr 0
              have f1 := Rr10.out.fr 1
              have f2 := Rr10.out.fr 2
              go_wp2_with fail
              have FF := Rr10.out.set3 (.bool false) (.slice ga n gc) (.slice ya N yc)
              have z0 := FF.c0
              have z1 := FF.c1
              have z2 := FF.c2
              refine bodyPost_ret (v := .tuple #[.agg #[.bool false, .slice ga n gc, .slice ya N yc], .nilIface]) (by simp [results, Try.results10, go_sem, z0, z1, z2]) rfl ?_
              have hX := HX.out.1.s3 (b := w.heap.size + 1 + 1 + 1) (.inl (by omega)) (.bool false) (.slice ga n gc) (.slice ya N yc)
              have hY := HX.out.2.1.set3 (b := w.heap.size + 1 + 1 + 1) (by omega) (.bool false) (.slice ga n gc) (.slice ya N yc)
              have h10 := HX.out.2.2.1
              have h49 := HX.out.2.2.2
              have hU := ub13_ok (e := inE f g c sz dz c' sz' dz') (w := w) HE.out.1 (S := S) (D := inD f g c sz dz c' sz' dz') (n := n) (m := N) HS.out.2 (by rw [← HE.out.2, upP_length]) ⟨(hX.1.new (by rw [size_set3]; omega)).low (by omega), hX.2⟩ (hY.low HB9.out.size) (bel_set3 HB10.out (b := w.heap.size + 1 + 1 + 1) (by omega) (.bool false) (.slice ga n gc) (.slice ya N yc))
              unfold niS13 niD13
              rw [← HS.out.1]
              exact hU
      · have HE : Hid (inE f g c sz dz c' sz' dz' = errOf S) := by
          show _ = _
          rw [HNE.out, ← HS.out.1, if_pos he]
        have HN : Hid (errOf S ≠ 0) := he
        rw [errV_pos he]
        clear he
        have r0 := Rr5.out.c0
        have r1 := Rr5.out.c1
        have r2 := Rr5.out.c2
        have f0 := Rr5.out.fr 0
        have f1 := Rr5.out.fr 1
        have f2 := Rr5.out.fr 2
        go_wp2_with fail
        have FF := Rr5.out.set3 (.bool false) (.slice none 0 0) (.slice none 0 0)
        have z0 := FF.c0
        have z1 := FF.c1
        have z2 := FF.c2
        exact bodyPost_ret (v := .tuple #[.agg #[.bool false, .slice none 0 0, .slice none 0 0], .iface 76 (.int .i64 (errOf S))]) (by simp [results, Try.results10, go_sem, z0, z1, z2]) rfl (ub13_no HE.out HN.out (bel_set3 HB5.out (by omega) _ _ _))
    · have hlt1 : 0 ≤ 1 := by omega
      have HE : Hid (inE f g c sz dz c' sz' dz' = cmE sz sz') := by
        show _ = _
        unfold cmE at hce
        unfold inE cmE
        rw [if_neg HF.out.1, if_neg (not_not_intro HF.out.2.1)]
        by_cases h : sz.length = 0 ∨ sz'.length = 0
        · rw [if_pos h, if_pos h]
        · rw [if_neg h] at hce
          rw [if_neg h, if_neg h]
          by_cases h2 : inN sz = nth sz' 0
          · rw [if_neg (not_not_intro h2)] at hce; exact absurd rfl hce
          · rw [if_pos h2, if_pos h2]
      have HN : Hid (cmE sz sz' ≠ 0) := hce
      rw [errV_pos hce]
      rw [HW2.out] at Rr2 HB2
      clear hce
      have r0 := Rr2.out.c0
      have r1 := Rr2.out.c1
      have r2 := Rr2.out.c2
      have f0 := Rr2.out.fr 0
      have f1 := Rr2.out.fr 1
      have f2 := Rr2.out.fr 2
      go_wp2_with fail
      have FF := Rr2.out.set3 (.bool false) (.slice none 0 0) (.slice none 0 0)
      have z0 := FF.c0
      have z1 := FF.c1
      have z2 := FF.c2
      exact bodyPost_ret (v := .tuple #[.agg #[.bool false, .slice none 0 0, .slice none 0 0], .iface 76 (.int .i64 (cmE sz sz'))]) (by simp [results, Try.results10, go_sem, z0, z1, z2]) rfl (ub13_no HE.out HN.out (bel_set3 HB2.out (by omega) _ _ _))
  · have HE : Hid (inE f g c sz dz c' sz' dz' = pcE [f, g] c sz dz c' sz' dz') := ni_pc he
    have HN : Hid (pcE [f, g] c sz dz c' sz' dz' ≠ 0) := he
    rw [errV_pos he]
    clear he
    have r0 := Rr1.out.c0
    have r1 := Rr1.out.c1
    have r2 := Rr1.out.c2
    have f0 := Rr1.out.fr 0
    have f1 := Rr1.out.fr 1
    have f2 := Rr1.out.fr 2
    go_wp2_with fail
    have FF := Rr1.out.set3 (.bool false) (.slice none 0 0) (.slice none 0 0)
    have z0 := FF.c0
    have z1 := FF.c1
    have z2 := FF.c2
    exact bodyPost_ret (v := .tuple #[.agg #[.bool false, .slice none 0 0, .slice none 0 0], .iface 76 (.int .i64 (pcE [f, g] c sz dz c' sz' dz'))]) (by simp [results, Try.results10, go_sem, z0, z1, z2]) rfl (ub13_no HE.out HN.out (bel_set3 HB1.out (by omega) _ _ _))
end Go.Proofs.Ytgaelbgeoobgiaa
