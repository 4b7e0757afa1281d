/-
  The program's determinant.
-/
import Derived.Test.YtjaabemlpiafaaaDoorMgb
import Derived.Test.YtjaabemlpiafaaaDoorHold
namespace Go.Proofs.YtjaabemlpiafaaaDoor
open Go.RowKit
set_option linter.unusedVariables false

theorem dt_wog {n : Nat} (hn : n ≤ 5) (j : Nat) (A : Mx) : dt n (wog 0 j A) = dt n fun a b => A (a + 1) (skp j b) :=
  dt_ext fun a ha b hb => by
    unfold wog
    rw [if_pos ⟨by omega, by omega⟩, skp_ge (by omega)]
set_option maxRecDepth 100000 in
set_option maxHeartbeats 1000000 in
theorem det_any : ∀ (n : Nat) (hn : n ≤ 6) (A : Mx) (w : World),
    Calls Tryd.prog 26 #[.agg (ofg A), .int .i64 (n : Nat)] w fun e w' => e = .returned (.int .i64 (wrap64 (dt n A))) ∧ Below w.heap.size w w' := by
  intro n
  induction n with
  | zero =>
    intro _ A w
    go_enter Tryd.func26, Tryd.ntmps26
    go_wp2_with fail
    go_ret
    exact ⟨ret1 (by unfold dt; exact (w_small (by decide) (by decide)).symm), (Below.refl _ w).alloc (Nat.le_refl _) _⟩
  | succ m ih =>
    intro hn A w
    obtain ⟨n, hnm⟩ : ∃ n : Nat, n = m + 1 := ⟨_, rfl⟩
    rw [← hnm]
    have HI : Hid (∀ A w, Calls Tryd.prog 26 #[.agg (ofg A), .int .i64 (m : Nat)] w fun e w' => e = .returned (.int .i64 (wrap64 (dt m A))) ∧ Below w.heap.size w w') := fun A w => ih (by omega) A w
    have HM : Hid (n = m + 1 ∧ m ≤ 5) := ⟨hnm, by omega⟩
    have hn6 : n ≤ 6 := by omega
    have n0 : ((n : Int) == 0) = false := by simp; omega
    have hsub : IntKind.i64.wrap ((n : Int) - 1) = (m : Int) := by rw [hnm, show (((m + 1 : Nat) : Int) - 1) = (m : Int) by omega]; rw [IntWalk.i64_left]; exact w_small (by omega) (by omega)
    clear hnm ih hn
    have HA : Hid (Gb (w.alloc (.cells (ofg A) 52)) w.heap.size A) := Gb.new w A
    have HB0 : Hid (Below w.heap.size w (w.alloc (.cells (ofg A) 52))) := (Below.refl _ w).alloc (Nat.le_refl _) _
    go_enter Tryd.func26, Tryd.ntmps26
    go_wp2_with fail
    go_loopw [5, 10] (fun s i wr => ∃ t : Nat, t ≤ n ∧ i = .int .i64 t ∧ s = .int .i64 (wrap64 (sm t fun j => sg j * A 0 j * dt m (wog 0 j A))) ∧ Gb wr w.heap.size A ∧ Below w.heap.size w wr) (fun _ i _ => n - (intOf i).toNat)
    case atStart => exact ⟨0, Nat.zero_le _, rfl, congrArg (Value.int .i64) (w_small (by decide) (by decide)).symm, HA.out, HB0.out⟩
    case round =>
      obtain ⟨t, ht, rfl, rfl, hA, hB⟩ := hrel
      have HQ : Hid (Gb wr w.heap.size A ∧ Below w.heap.size w wr) := ⟨hA, hB⟩
      clear hA hB HA HB0
      by_cases hlt : t < n
      · have t6 : t < 6 := by omega
        have c0 := HQ.out.1.cell (show 0 < 6 by decide) t6
        rw [Nat.zero_mul, Nat.zero_add] at c0
        have it : (t : Int) < 6 := by omega
        have H64 : Hid (t ≤ 64 ∧ t ≤ 5) := ⟨by omega, by omega⟩
        have HS : Hid (sm (t + 1) (fun j => sg j * A 0 j * dt m (wog 0 j A)) = sm t (fun j => sg j * A 0 j * dt m (wog 0 j A)) + sg t * A 0 t * dt m (wog 0 t A)) := rfl
        generalize hS0 : sm t (fun j => sg j * A 0 j * dt m (wog 0 j A)) = S0 at *
        clear hS0
        go_wp2_with fail
        have hb0 : Below wr.heap.size wr wr.drew := (Below.refl _ wr).drew
        refine anyC_begin (fun w' => w'.cell? ⟨w.heap.size, t, none⟩ = some (.int .i64 (A 0 t)) ∧ Gb w' w.heap.size A) 17 #[false, false, false, false, false, false, false, false, false, false, false, false, false, false, false, false, false] (by kernel_rfl) rfl rfl ?_
        refine anyC_put 0 13 ?rv0 #[true, false, false, false, false, false, false, false, false, false, false, false, false, false, false, false, false] rfl rfl rfl (by kernel_rfl) (by kernel_rfl) (by kernel_rfl) (fun _ _ _ h => h) ?ry0 (⟨c0, HQ.out.1⟩) ?rm0
        case ry0 => first | exact Or.inl ⟨by rfl, by intro w'; go_simp; first | done | rfl⟩
        case rm0 =>
        simp only [Act.put, List.setIfInBounds_toArray, List.set_cons_zero, List.set_cons_succ]
        refine anyC_put 1 14 ?rv1 #[true, true, false, false, false, false, false, false, false, false, false, false, false, false, false, false, false] rfl rfl rfl (by kernel_rfl) (by kernel_rfl) (by kernel_rfl) (fun _ _ _ h => h) ?ry1 (⟨c0, HQ.out.1⟩) ?rm1
        case ry1 => first | exact Or.inl ⟨by rfl, by intro w'; go_simp; first | done | rfl⟩
        case rm1 =>
        simp only [Act.put, List.setIfInBounds_toArray, List.set_cons_zero, List.set_cons_succ]
        refine anyC_put 3 16 ?rv2 #[true, true, false, true, false, false, false, false, false, false, false, false, false, false, false, false, false] rfl rfl rfl (by kernel_rfl) (by kernel_rfl) (by kernel_rfl) (fun _ _ _ h => h) ?ry2 (⟨c0, HQ.out.1⟩) ?rm2
        case ry2 => first | exact Or.inl ⟨by rfl, by intro w'; go_simp; first | done | rfl⟩
        case rm2 =>
        simp only [Act.put, List.setIfInBounds_toArray, List.set_cons_zero, List.set_cons_succ]
        refine anyC_put 4 17 ?rv3 #[true, true, false, true, true, false, false, false, false, false, false, false, false, false, false, false, false] rfl rfl rfl (by kernel_rfl) (by kernel_rfl) (by kernel_rfl) (fun _ _ _ h => h) ?ry3 (⟨c0, HQ.out.1⟩) ?rm3
        case ry3 => first | exact Or.inl ⟨by rfl, by intro w'; go_simp; first | done | rfl⟩
        case rm3 =>
        simp only [Act.put, List.setIfInBounds_toArray, List.set_cons_zero, List.set_cons_succ]
        refine anyC_put 5 18 ?rv4 #[true, true, false, true, true, true, false, false, false, false, false, false, false, false, false, false, false] rfl rfl rfl (by kernel_rfl) (by kernel_rfl) (by kernel_rfl) (fun _ _ _ h => h) ?ry4 (⟨c0, HQ.out.1⟩) ?rm4
        case ry4 => first | exact Or.inl ⟨by rfl, by intro w'; go_simp; first | done | rfl⟩
        case rm4 =>
        simp only [Act.put, List.setIfInBounds_toArray, List.set_cons_zero, List.set_cons_succ]
        refine anyC_take 6 19 ?rv5 #[true, true, false, true, true, true, true, false, false, false, false, false, false, false, false, false, false] rfl rfl rfl (by kernel_rfl) (by kernel_rfl) (by kernel_rfl) (fun _ _ _ h => h) ?ry5 (⟨c0, HQ.out.1⟩) ?rm5
        case ry5 => first | exact Or.inl ⟨by rfl, by intro w' hw'; (try dsimp only at hw'); go_simp; first | done | rfl⟩
        case rm5 =>
        simp only [Act.put, List.setIfInBounds_toArray, List.set_cons_zero, List.set_cons_succ]
        refine anyC_take 8 21 (.agg (ofg A)) #[true, true, false, true, true, true, true, false, true, false, false, false, false, false, false, false, false] rfl rfl rfl (by kernel_rfl) (by kernel_rfl) (by kernel_rfl) (fun _ _ _ h => h) ?ry6 (⟨c0, HQ.out.1⟩) ?rm6
        case ry6 => exact yld w.heap.size A (.tmp 2) (by rfl) (by rfl) (by rfl) (by intro _ h; exact h.2)
        case rm6 =>
        simp only [Act.put, List.setIfInBounds_toArray, List.set_cons_zero, List.set_cons_succ]
        refine anyC_put 9 22 ?rv7 #[true, true, false, true, true, true, true, false, true, true, false, false, false, false, false, false, false] rfl rfl rfl (by kernel_rfl) (by kernel_rfl) (by kernel_rfl) (fun _ _ _ h => h) ?ry7 (⟨c0, HQ.out.1⟩) ?rm7
        case ry7 => first | exact Or.inl ⟨by rfl, by intro w'; go_simp; first | done | rfl⟩
        case rm7 =>
        simp only [Act.put, List.setIfInBounds_toArray, List.set_cons_zero, List.set_cons_succ]
        refine anyC_put 11 24 ?rv8 #[true, true, false, true, true, true, true, false, true, true, false, true, false, false, false, false, false] rfl rfl rfl (by kernel_rfl) (by kernel_rfl) (by kernel_rfl) (fun _ _ _ h => h) ?ry8 (⟨c0, HQ.out.1⟩) ?rm8
        case ry8 => first | exact Or.inl ⟨by rfl, by intro w'; go_simp; first | done | rfl⟩
        case rm8 =>
        simp only [Act.put, List.setIfInBounds_toArray, List.set_cons_zero, List.set_cons_succ]
        refine anyC_put 12 25 ?rv9 #[true, true, false, true, true, true, true, false, true, true, false, true, true, false, false, false, false] rfl rfl rfl (by kernel_rfl) (by kernel_rfl) (by kernel_rfl) (fun _ _ _ h => h) ?ry9 (⟨c0, HQ.out.1⟩) ?rm9
        case ry9 => first | exact Or.inl ⟨by rfl, by intro w'; go_simp; first | done | rfl⟩
        case rm9 =>
        simp only [Act.put, List.setIfInBounds_toArray, List.set_cons_zero, List.set_cons_succ]
        refine anyC_one 2 #[true, true, true, true, true, true, true, false, true, true, false, true, true, false, false, false, false] (by kernel_rfl) rfl rfl (fun K hK => ?_)
        go_simp
        go_wp2_with (go_at_call 29; refine (sign_any t H64.out.1 _).mono ?_; rintro e w3 ⟨rfl, hw3⟩; obtain rfl := hw3.symm)
        refine hK.out _ _ (⟨c0, HQ.out.1⟩) ?_
        clear hK K
        refine anyC_put 7 20 ?rv11 #[true, true, true, true, true, true, true, true, true, true, false, true, true, false, false, false, false] rfl rfl rfl (by kernel_rfl) (by kernel_rfl) (by kernel_rfl) (fun _ _ _ h => h) ?ry11 (⟨c0, HQ.out.1⟩) ?rm11
        case ry11 => first | exact Or.inl ⟨by rfl, by intro w'; go_simp; first | done | rfl⟩
        case rm11 =>
        simp only [Act.put, List.setIfInBounds_toArray, List.set_cons_zero, List.set_cons_succ]
        refine anyC_one 10 #[true, true, true, true, true, true, true, true, true, true, true, true, true, false, false, false, false] (by kernel_rfl) rfl rfl (fun K hK => ?_)
        go_simp
        go_wp2_with (go_at_call 43; refine (without_any A 0 t (by decide) H64.out.2 _).mono ?_; rintro e y1 ⟨rfl, hB1⟩)
        have hb1 : Below wr.heap.size wr y1 := hb0.trans (hB1.mono hb0.size)
        have g1 := HQ.out.1.go hb1
        have c1 : y1.cell? ⟨w.heap.size, t, none⟩ = some (.int .i64 (A 0 t)) := by (have := g1.cell (show 0 < 6 by decide) t6; rwa [Nat.zero_mul, Nat.zero_add] at this)
        refine hK.out _ _ (⟨c1, g1⟩) ?_
        clear hK K
        refine anyC_one 13 #[true, true, true, true, true, true, true, true, true, true, true, true, true, true, false, false, false] (by kernel_rfl) rfl rfl (fun K hK => ?_)
        go_simp
        go_wp2_with (go_at_call 26; refine (HI.out (wog 0 t A) _).mono ?_; rintro e y2 ⟨rfl, hB2⟩)
        have hb2 : Below wr.heap.size wr y2 := hb1.trans (hB2.mono hb1.size)
        have g2 := HQ.out.1.go hb2
        have c2 : y2.cell? ⟨w.heap.size, t, none⟩ = some (.int .i64 (A 0 t)) := by (have := g2.cell (show 0 < 6 by decide) t6; rwa [Nat.zero_mul, Nat.zero_add] at this)
        refine hK.out _ _ (⟨c2, g2⟩) ?_
        clear hK K
        refine anyC_put 14 27 ?rv14 #[true, true, true, true, true, true, true, true, true, true, true, true, true, true, true, false, false] rfl rfl rfl (by kernel_rfl) (by kernel_rfl) (by kernel_rfl) (fun _ _ _ h => h) ?ry14 (⟨c2, g2⟩) ?rm14
        case ry14 => first | exact Or.inl ⟨by rfl, by intro w'; go_simp; first | done | rfl⟩
        case rm14 =>
        simp only [Act.put, List.setIfInBounds_toArray, List.set_cons_zero, List.set_cons_succ]
        refine anyC_put 15 28 ?rv15 #[true, true, true, true, true, true, true, true, true, true, true, true, true, true, true, true, false] rfl rfl rfl (by kernel_rfl) (by kernel_rfl) (by kernel_rfl) (fun _ _ _ h => h) ?ry15 (⟨c2, g2⟩) ?rm15
        case ry15 => first | exact Or.inl ⟨by rfl, by intro w'; go_simp; first | done | rfl⟩
        case rm15 =>
        simp only [Act.put, List.setIfInBounds_toArray, List.set_cons_zero, List.set_cons_succ]
        refine anyC_put 16 5 ?rv16 #[true, true, true, true, true, true, true, true, true, true, true, true, true, true, true, true, true] rfl rfl rfl (by kernel_rfl) (by kernel_rfl) (by kernel_rfl) (fun _ _ _ h => h) ?ry16 (⟨c2, g2⟩) ?rm16
        case ry16 => first | exact Or.inl ⟨by rfl, by intro w'; go_simp; first | done | rfl⟩
        case rm16 =>
        simp only [Act.put, List.setIfInBounds_toArray, List.set_cons_zero, List.set_cons_succ]
        refine anyC_done (by kernel_rfl) ?_
        have HQ2 : Hid (Gb y2 w.heap.size A ∧ Below w.heap.size w y2) := ⟨g2, HQ.out.2.trans (hb2.mono HQ.out.2.size)⟩
        clear c0 c1 c2 g1 g2 hb0 hb1 hb2 hB1 hB2 HQ
        go_wp2_with fail
        refine ⟨⟨t + 1, by omega, by go_num, congrArg (Value.int .i64) ?_, HQ2.out⟩, by simp [intOf]; omega⟩
        rw [HS.out]
        simp only [IntWalk.i64_left]
        rw [w_acc2]
      · obtain rfl : t = n := by omega
        go_wp2_with fail
        go_ret
        refine ⟨ret1 ?_, HQ.out.2⟩
        rw [HM.out.1]
        show wrap64 _ = wrap64 (sm (m + 1) _)
        congr 1
        exact sm_congr fun j _ => by rw [dt_wog HM.out.2]
end Go.Proofs.YtjaabemlpiafaaaDoor
