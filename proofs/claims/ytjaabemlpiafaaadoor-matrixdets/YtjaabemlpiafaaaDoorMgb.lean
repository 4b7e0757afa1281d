/-
  The program's matrix without a row and a column.
-/
import Derived.Test.YtjaabemlpiafaaaDoorMga
import Derived.Test.YtjaabemlpiafaaaDoorBase
namespace Go.Proofs.YtjaabemlpiafaaaDoor
open Go.RowKit
set_option linter.unusedVariables false

set_option maxRecDepth 100000 in
set_option maxHeartbeats 2000000 in
theorem without_any (A : Mx) (r c : Nat) (hr : r ≤ 5) (hc : c ≤ 5) (w : World) :
    Calls Tryd.prog 43 #[.agg (ofg A), .int .i64 (r : Nat), .int .i64 (c : Nat)] w fun e w' => e = .returned (.agg (ofg (wog r c A))) ∧ Below w.heap.size w w' := by
  go_enter Tryd.func43, Tryd.ntmps43
  go_wp2_with fail
  rw [ofg_zero]
  obtain ⟨w0, hw0⟩ : ∃ w0, w0 = ((w.alloc (.cells (ofg A) 52)).alloc (.cells (ofg fun _ _ => 0) 52)).alloc (.cells (ofg fun _ _ => 0) 52) := ⟨_, rfl⟩
  rw [← hw0]
  have HA : Hid (Gb w0 w.heap.size A) := by rw [hw0]; exact ((Gb.new w A).al _).al _
  have HR : Hid (Gb w0 (w.heap.size + 1) fun _ _ => 0) := by
    rw [hw0]
    have := (Gb.new (w.alloc (.cells (ofg A) 52)) fun _ _ => 0).al (.cells (ofg fun _ _ => 0) 52)
    rwa [World.size_alloc] at this
  have HT : Hid (Gb w0 (w.heap.size + 1 + 1) (wot r c 0 0 A)) := by
    rw [hw0, wot_none]
    have := (Gb.new ((w.alloc (.cells (ofg A) 52)).alloc (.cells (ofg fun _ _ => 0) 52)) fun _ _ => 0)
    rwa [World.size_alloc, World.size_alloc] at this
  have HB0 : Hid (Below w.heap.size w w0) := by rw [hw0]; exact (((Below.refl _ w).alloc (Nat.le_refl _) _).alloc (by simp) _).alloc (by simp; omega) _
  clear hw0
  go_loopw [10] (fun i wr => ∃ t : Nat, t ≤ 5 ∧ i = .int .i64 t ∧ Gb wr w.heap.size A ∧ Gb wr (w.heap.size + 1) (fun _ _ => 0) ∧ Gb wr (w.heap.size + 1 + 1) (wot r c t 0 A) ∧ Below w.heap.size w wr) (fun i _ => 5 - (intOf i).toNat)
  case atStart => exact ⟨0, Nat.zero_le _, rfl, HA.out, HR.out, HT.out, HB0.out⟩
  case round =>
    clear HA HR HT HB0
    obtain ⟨t, ht, rfl, hA, hR, hT, hB⟩ := hrel
    have HQ : Hid (Gb wr w.heap.size A ∧ Gb wr (w.heap.size + 1) (fun _ _ => 0) ∧ Gb wr (w.heap.size + 1 + 1) (wot r c t 0 A) ∧ Below w.heap.size w wr) := ⟨hA, hR, hT, hB⟩
    clear hA hR hT hB
    by_cases hlt : t < 5
    · have hd5 : decide ((t : Int) < 5) = true := by simp; omega
      go_wp2_with fail
      go_loopw [13] (fun i wr => ∃ u : Nat, u ≤ 5 ∧ i = .int .i64 u ∧ Gb wr w.heap.size A ∧ Gb wr (w.heap.size + 1) (fun _ _ => 0) ∧ Gb wr (w.heap.size + 1 + 1) (wot r c t u A) ∧ Below w.heap.size w wr) (fun i _ => 5 - (intOf i).toNat)
      case atStart => exact ⟨0, Nat.zero_le _, rfl, HQ.out⟩
      case round =>
        clear HQ
        obtain ⟨u, hu, rfl, hA, hR, hT, hB⟩ := hrel
        have HQ : Hid (Gb wr w.heap.size A ∧ Gb wr (w.heap.size + 1) (fun _ _ => 0) ∧ Gb wr (w.heap.size + 1 + 1) (wot r c t u A) ∧ Below w.heap.size w wr) := ⟨hA, hR, hT, hB⟩
        clear hA hR hT hB
        by_cases hul : u < 5
        · obtain ⟨p, hp⟩ : ∃ p, p = skp r t := ⟨_, rfl⟩
          obtain ⟨q, hq⟩ : ∃ q, q = skp c u := ⟨_, rfl⟩
          have hp6 : p < 6 := by rw [hp]; exact skp_bd hlt
          have hq6 : q < 6 := by rw [hq]; exact skp_bd hul
          have HP : Hid (skp r t = p ∧ skp c u = q) := ⟨hp.symm, hq.symm⟩
          clear hp hq
          have c1 := HQ.out.1.cell hp6 hq6
          have c2 := HQ.out.2.2.1.cell (show t < 6 by omega) (show u < 6 by omega)
          have f2 := HQ.out.2.2.1.fr (t * 6 + u)
          have ip : (p : Int) < 6 := by omega
          have iq : (q : Int) < 6 := by omega
          have it : (t : Int) < 6 := by omega
          have iu : (u : Int) < 6 := by omega
          have HIt : Hid (t ≤ 64 ∧ u ≤ 64) := ⟨by omega, by omega⟩
          go_wp2_with fail
          refine anyT_begin 12 (fun w' => w'.cell? ⟨w.heap.size, p * 6 + q, none⟩ = some (.int .i64 (A p q))) 14 #[false, false, false, false, false, false, false, false, false, false, false, false, false, false] (by kernel_rfl) rfl rfl ?_
          refine anyT_put 0 16 ?rv0 #[true, false, false, false, false, false, false, false, false, false, false, false, false, false] rfl rfl rfl (by kernel_rfl) (by kernel_rfl) (by kernel_rfl) (fun _ _ _ h => h) (by decide) ?ry0 (fun _ => c1) ?rm0
          case ry0 => first | exact Or.inl ⟨by rfl, by intro w'; go_simp; first | done | rfl⟩
          case rm0 =>
          simp only [Act.put, List.setIfInBounds_toArray, List.set_cons_zero, List.set_cons_succ]
          refine anyT_put 1 17 ?rv1 #[true, true, false, false, false, false, false, false, false, false, false, false, false, false] rfl rfl rfl (by kernel_rfl) (by kernel_rfl) (by kernel_rfl) (fun _ _ _ h => h) (by decide) ?ry1 (fun _ => c1) ?rm1
          case ry1 => first | exact Or.inl ⟨by rfl, by intro w'; go_simp; first | done | rfl⟩
          case rm1 =>
          simp only [Act.put, List.setIfInBounds_toArray, List.set_cons_zero, List.set_cons_succ]
          refine anyT_put 2 18 ?rv2 #[true, true, true, false, false, false, false, false, false, false, false, false, false, false] rfl rfl rfl (by kernel_rfl) (by kernel_rfl) (by kernel_rfl) (fun _ _ _ h => h) (by decide) ?ry2 (fun _ => c1) ?rm2
          case ry2 => first | exact Or.inl ⟨by rfl, by intro w'; go_simp; first | done | rfl⟩
          case rm2 =>
          simp only [Act.put, List.setIfInBounds_toArray, List.set_cons_zero, List.set_cons_succ]
          refine anyT_put 3 19 ?rv3 #[true, true, true, true, false, false, false, false, false, false, false, false, false, false] rfl rfl rfl (by kernel_rfl) (by kernel_rfl) (by kernel_rfl) (fun _ _ _ h => h) (by decide) ?ry3 (fun _ => c1) ?rm3
          case ry3 => first | exact Or.inl ⟨by rfl, by intro w'; go_simp; first | done | rfl⟩
          case rm3 =>
          simp only [Act.put, List.setIfInBounds_toArray, List.set_cons_zero, List.set_cons_succ]
          refine anyT_put 5 21 ?rv4 #[true, true, true, true, false, true, false, false, false, false, false, false, false, false] rfl rfl rfl (by kernel_rfl) (by kernel_rfl) (by kernel_rfl) (fun _ _ _ h => h) (by decide) ?ry4 (fun _ => c1) ?rm4
          case ry4 => first | exact Or.inl ⟨by rfl, by intro w'; go_simp; first | done | rfl⟩
          case rm4 =>
          simp only [Act.put, List.setIfInBounds_toArray, List.set_cons_zero, List.set_cons_succ]
          refine anyT_put 6 22 ?rv5 #[true, true, true, true, false, true, true, false, false, false, false, false, false, false] rfl rfl rfl (by kernel_rfl) (by kernel_rfl) (by kernel_rfl) (fun _ _ _ h => h) (by decide) ?ry5 (fun _ => c1) ?rm5
          case ry5 => first | exact Or.inl ⟨by rfl, by intro w'; go_simp; first | done | rfl⟩
          case rm5 =>
          simp only [Act.put, List.setIfInBounds_toArray, List.set_cons_zero, List.set_cons_succ]
          refine anyT_put 11 27 ?rv6 #[true, true, true, true, false, true, true, false, false, false, false, true, false, false] rfl rfl rfl (by kernel_rfl) (by kernel_rfl) (by kernel_rfl) (fun _ _ _ h => h) (by decide) ?ry6 (fun _ => c1) ?rm6
          case ry6 => first | exact Or.inl ⟨by rfl, by intro w'; go_simp; first | done | rfl⟩
          case rm6 =>
          simp only [Act.put, List.setIfInBounds_toArray, List.set_cons_zero, List.set_cons_succ]
          refine anyT_one 4 #[true, true, true, true, true, true, true, false, false, false, false, true, false, false] (by kernel_rfl) rfl rfl (fun K hK => ?_)
          go_simp
          go_wp2_with (go_at_call 48; refine (past_any t r HIt.out.1 _).mono ?_; rintro e w3 ⟨rfl, hw3⟩; obtain rfl := hw3.symm; rw [HP.out.1])
          refine hK.out _ _ (fun _ => c1) ?_
          clear hK K
          refine anyT_put 8 24 ?rv8 #[true, true, true, true, true, true, true, false, true, false, false, true, false, false] rfl rfl rfl (by kernel_rfl) (by kernel_rfl) (by kernel_rfl) (fun _ _ _ h => h) (by decide) ?ry8 (fun _ => c1) ?rm8
          case ry8 => first | exact Or.inl ⟨by rfl, by intro w'; go_simp; first | done | rfl⟩
          case rm8 =>
          simp only [Act.put, List.setIfInBounds_toArray, List.set_cons_zero, List.set_cons_succ]
          refine anyT_one 7 #[true, true, true, true, true, true, true, true, true, false, false, true, false, false] (by kernel_rfl) rfl rfl (fun K hK => ?_)
          go_simp
          go_wp2_with (go_at_call 48; refine (past_any u c HIt.out.2 _).mono ?_; rintro e w3 ⟨rfl, hw3⟩; obtain rfl := hw3.symm; rw [HP.out.2])
          refine hK.out _ _ (fun _ => c1) ?_
          clear hK K
          refine anyT_put 9 25 ?rv10 #[true, true, true, true, true, true, true, true, true, true, false, true, false, false] rfl rfl rfl (by kernel_rfl) (by kernel_rfl) (by kernel_rfl) (fun _ _ _ h => h) (by decide) ?ry10 (fun _ => c1) ?rm10
          case ry10 => first | exact Or.inl ⟨by rfl, by intro w'; go_simp; first | done | rfl⟩
          case rm10 =>
          simp only [Act.put, List.setIfInBounds_toArray, List.set_cons_zero, List.set_cons_succ]
          refine anyT_take 10 26 ?rv11 #[true, true, true, true, true, true, true, true, true, true, true, true, false, false] rfl rfl rfl (by kernel_rfl) (by kernel_rfl) (by kernel_rfl) (fun _ _ _ h => h) (by kernel_rfl) (by decide) (by kernel_rfl) ?ry11 (c1) ?rm11
          case ry11 => first | exact Or.inl ⟨by rfl, by intro w' hw'; (try dsimp only at hw'); go_simp; first | done | rfl⟩
          case rm11 =>
          simp only [Act.put, List.setIfInBounds_toArray, List.set_cons_zero, List.set_cons_succ]
          refine anyT_one 12 #[true, true, true, true, true, true, true, true, true, true, true, true, true, false] (by kernel_rfl) rfl rfl (fun K hK => ?_)
          go_simp
          refine hK.out _ _ (fun h => absurd h (by decide)) ?_
          clear hK K
          refine anyT_one 13 #[true, true, true, true, true, true, true, true, true, true, true, true, true, true] (by kernel_rfl) rfl rfl (fun K hK => ?_)
          go_simp
          refine hK.out _ _ (fun h => absurd h (by decide)) ?_
          clear hK K
          refine anyT_done (by kernel_rfl) ?_
          have HV : Hid (ptg (wot r c t u A) t u (A p q) = wot r c t (u + 1) A) := by show _ = _; rw [← HP.out.1, ← HP.out.2]; exact wot_next hlt hul A
          clear c1 c2 f2 hw3
          obtain ⟨w6, hw6⟩ : ∃ w6, w6 = (wr.setCell ⟨w.heap.size + 1 + 1, t * 6 + u, none⟩ (.int .i64 (A p q))).drew := ⟨_, rfl⟩
          rw [← hw6]
          have HQ6 : Hid (Gb w6 w.heap.size A ∧ Gb w6 (w.heap.size + 1) (fun _ _ => 0) ∧ Gb w6 (w.heap.size + 1 + 1) (wot r c t (u + 1) A) ∧ Below w.heap.size w w6) := by
            show _ ∧ _
            rw [hw6, ← HV.out]
            exact ⟨(HQ.out.1.ot (by show w.heap.size ≠ w.heap.size + 1 + 1; omega) _).dr, (HQ.out.2.1.ot (by show w.heap.size + 1 ≠ w.heap.size + 1 + 1; omega) _).dr, (HQ.out.2.2.1.put (show t < 6 by omega) (show u < 6 by omega) _).dr, (HQ.out.2.2.2.setCell (p := ⟨w.heap.size + 1 + 1, t * 6 + u, none⟩) (by show w.heap.size ≤ w.heap.size + 1 + 1; omega) _).drew⟩
          clear hw6 HQ HV
          go_wp2_with fail
          exact ⟨⟨u + 1, by omega, by go_num, HQ6.out⟩, by simp [intOf]; omega⟩
        · obtain rfl : u = 5 := by omega
          go_wp2_with fail
          exact ⟨⟨t + 1, by omega, by go_num, HQ.out.1, HQ.out.2.1, by rw [← wot_row]; exact HQ.out.2.2.1, HQ.out.2.2.2⟩, by simp [intOf]; omega⟩
    · obtain rfl : t = 5 := by omega
      have HE : Hid (Gb (wr.setRow (w.heap.size + 1) (ofg (wog r c A))) (w.heap.size + 1) (wog r c A)) := HQ.out.2.1.row
      have HL : Hid (Gb wr (w.heap.size + 1 + 1) (wog r c A)) := by rw [← wot_all]; exact HQ.out.2.2.1
      go_wp2_with (first | refine wpl_ldg (w.heap.size + 1 + 1) (wog r c A) _ HL.out rfl rfl rfl ?_ | refine wpl_stg (w.heap.size + 1) _ (wog r c A) _ _ HQ.out.2.1 rfl rfl rfl rfl rfl ?_)
      refine bodyPost_ret (v := .agg (ofg (wog r c A))) ?_ rfl ⟨rfl, bel_row HQ.out.2.2.2 (by omega)⟩
      exact results_cell_row rfl _ _ (w.heap.size + 1) 52 _ (0, 0) _ rfl HE.out Tryd.underlying52 rfl (by rw [ofg_size]; exact Tryd.infoG)
end Go.Proofs.YtjaabemlpiafaaaDoor
