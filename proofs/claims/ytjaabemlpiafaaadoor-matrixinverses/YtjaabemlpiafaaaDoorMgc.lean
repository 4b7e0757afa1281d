/-
  The program's adjugate.
-/
import Derived.Test.YtjaabemlpiafaaaDoorMgd
namespace Go.Proofs.YtjaabemlpiafaaaDoor
open Go.RowKit
set_option linter.unusedVariables false

theorem dt_wog2 {n : Nat} (hn : n ≤ 5) (i j : Nat) (A : Mx) : dt n (wog i j A) = dt n (mnr i j A) :=
  dt_ext fun a ha b hb => by
    unfold wog
    rw [if_pos ⟨by omega, by omega⟩]
    rfl
/-- The adjugate of n rows, with 0 elsewhere. -/
def ajg (n : Nat) (A : Mx) : Mx := fun i j => if i < n ∧ j < n then wrap64 (ad (n - 1) A i j) else 0
set_option maxRecDepth 100000 in
set_option maxHeartbeats 2000000 in
theorem adjugate_any (n : Nat) (hn : n ≤ 6) (A : Mx) (w : World) :
    Calls Tryd.prog 31 #[.agg (ofg A), .int .i64 (n : Nat)] w fun e w' => e = .returned (.agg (ofg (ajg n A))) ∧ Below w.heap.size w w' := by
  obtain ⟨F, hF⟩ : ∃ F : Mx, F = fun i j => wrap64 (ad (n - 1) A i j) := ⟨_, rfl⟩
  have HF : Hid (∀ i j, F i j = wrap64 (sg (i + j) * wrap64 (dt (n - 1) (wog j i A)))) := fun i j => by rw [hF, w_mulr, dt_wog2 (by omega)]; rfl
  have HAll : Hid (sof n F n 0 = ajg n A) := by show _ = _; rw [sof_all, hF]; rfl
  clear hF
  go_enter Tryd.func31, Tryd.ntmps31
  go_wp2_with fail
  rw [ofg_zero]
  obtain ⟨w0, hw0⟩ : ∃ w0, w0 = ((w.alloc (.cells (ofg A) 52)).alloc (.cells (ofg fun _ _ => 0) 52)).alloc (.cells (ofg fun _ _ => 0) 52) := ⟨_, rfl⟩
  rw [← hw0]
  have HA : Hid (Gb w0 w.heap.size A) := by rw [hw0]; exact ((Gb.new w A).al _).al _
  have HR : Hid (Gb w0 (w.heap.size + 1) fun _ _ => 0) := by
    rw [hw0]
    have := (Gb.new (w.alloc (.cells (ofg A) 52)) fun _ _ => 0).al (.cells (ofg fun _ _ => 0) 52)
    rwa [World.size_alloc] at this
  have HT : Hid (Gb w0 (w.heap.size + 1 + 1) (sof n F 0 0)) := by
    rw [hw0, sof_none]
    have := (Gb.new ((w.alloc (.cells (ofg A) 52)).alloc (.cells (ofg fun _ _ => 0) 52)) fun _ _ => 0)
    rwa [World.size_alloc, World.size_alloc] at this
  have HB0 : Hid (Below w.heap.size w w0) := by rw [hw0]; exact (((Below.refl _ w).alloc (Nat.le_refl _) _).alloc (by simp) _).alloc (by simp; omega) _
  clear hw0
  go_loopw [9] (fun i wr => ∃ t : Nat, t ≤ n ∧ i = .int .i64 t ∧ Gb wr w.heap.size A ∧ Gb wr (w.heap.size + 1) (fun _ _ => 0) ∧ Gb wr (w.heap.size + 1 + 1) (sof n F t 0) ∧ Below w.heap.size w wr) (fun i _ => n - (intOf i).toNat)
  case atStart => exact ⟨0, Nat.zero_le _, rfl, HA.out, HR.out, HT.out, HB0.out⟩
  case round =>
    clear HA HR HT HB0
    obtain ⟨t, ht, rfl, hA, hR, hT, hB⟩ := hrel
    have HQ : Hid (Gb wr w.heap.size A ∧ Gb wr (w.heap.size + 1) (fun _ _ => 0) ∧ Gb wr (w.heap.size + 1 + 1) (sof n F t 0) ∧ Below w.heap.size w wr) := ⟨hA, hR, hT, hB⟩
    clear hA hR hT hB
    by_cases hlt : t < n
    · have hd5 : decide ((t : Int) < (n : Int)) = true := by simp; omega
      go_wp2_with fail
      go_loopw [13] (fun i wr => ∃ u : Nat, u ≤ n ∧ i = .int .i64 u ∧ Gb wr w.heap.size A ∧ Gb wr (w.heap.size + 1) (fun _ _ => 0) ∧ Gb wr (w.heap.size + 1 + 1) (sof n F t u) ∧ Below w.heap.size w wr) (fun i _ => n - (intOf i).toNat)
      case atStart => exact ⟨0, Nat.zero_le _, rfl, HQ.out⟩
      case round =>
        clear HQ
        obtain ⟨u, hu, rfl, hA, hR, hT, hB⟩ := hrel
        have HQ : Hid (Gb wr w.heap.size A ∧ Gb wr (w.heap.size + 1) (fun _ _ => 0) ∧ Gb wr (w.heap.size + 1 + 1) (sof n F t u) ∧ Below w.heap.size w wr) := ⟨hA, hR, hT, hB⟩
        clear hA hR hT hB
        by_cases hul : u < n
        · obtain ⟨v, hv⟩ : ∃ v, v = t + u := ⟨_, rfl⟩
          obtain ⟨m, hm⟩ : ∃ m, m = n - 1 := ⟨_, rfl⟩
          have hadd : IntKind.i64.wrap ((t : Int) + (u : Int)) = (v : Int) := by rw [IntWalk.i64_left, show ((t : Int) + (u : Int)) = (v : Int) by omega]; exact w_small (by omega) (by omega)
          have hsub : IntKind.i64.wrap ((n : Int) - 1) = (m : Int) := by rw [IntWalk.i64_left, show ((n : Int) - 1) = (m : Int) by omega]; exact w_small (by omega) (by omega)
          have HV : Hid (ptg (sof n F t u) t u (wrap64 (sg v * wrap64 (dt m (wog u t A)))) = sof n F t (u + 1)) := by show _ = _; rw [hv, hm, ← HF.out, sof_next hlt hul]
          have H64 : Hid (v ≤ 64 ∧ u ≤ 5 ∧ t ≤ 5 ∧ m ≤ 6) := ⟨by omega, by omega, by omega, by omega⟩
          clear hv hm
          have it : (t : Int) < 6 := by omega
          have iu : (u : Int) < 6 := by omega
          have HIt : Hid (t < 6 ∧ u < 6) := ⟨by omega, by omega⟩
          go_wp2_with fail
          have hb0 : Below wr.heap.size wr wr.drew := (Below.refl _ wr).drew
          refine anyT_begin 15 (fun w' => Gb w' w.heap.size A) 17 #[false, false, false, false, false, false, false, false, false, false, false, false, false, false, false, false, false] (by kernel_rfl) rfl rfl ?_
          refine anyT_put 0 16 ?rv0 #[true, false, false, false, false, false, false, false, false, false, false, false, false, false, false, false, false] rfl rfl rfl (by kernel_rfl) (by kernel_rfl) (by kernel_rfl) (fun _ _ _ h => h) (by decide) ?ry0 (fun _ => HQ.out.1) ?rm0
          case ry0 => first | exact Or.inl ⟨by rfl, by intro w'; go_simp; first | done | rfl⟩
          case rm0 =>
          simp only [Act.put, List.setIfInBounds_toArray, List.set_cons_zero, List.set_cons_succ]
          refine anyT_put 1 17 ?rv1 #[true, true, false, false, false, false, false, false, false, false, false, false, false, false, false, false, false] rfl rfl rfl (by kernel_rfl) (by kernel_rfl) (by kernel_rfl) (fun _ _ _ h => h) (by decide) ?ry1 (fun _ => HQ.out.1) ?rm1
          case ry1 => first | exact Or.inl ⟨by rfl, by intro w'; go_simp; first | done | rfl⟩
          case rm1 =>
          simp only [Act.put, List.setIfInBounds_toArray, List.set_cons_zero, List.set_cons_succ]
          refine anyT_put 2 18 ?rv2 #[true, true, true, false, false, false, false, false, false, false, false, false, false, false, false, false, false] rfl rfl rfl (by kernel_rfl) (by kernel_rfl) (by kernel_rfl) (fun _ _ _ h => h) (by decide) ?ry2 (fun _ => HQ.out.1) ?rm2
          case ry2 => first | exact Or.inl ⟨by rfl, by intro w'; go_simp; first | done | rfl⟩
          case rm2 =>
          simp only [Act.put, List.setIfInBounds_toArray, List.set_cons_zero, List.set_cons_succ]
          refine anyT_put 3 19 ?rv3 #[true, true, true, true, false, false, false, false, false, false, false, false, false, false, false, false, false] rfl rfl rfl (by kernel_rfl) (by kernel_rfl) (by kernel_rfl) (fun _ _ _ h => h) (by decide) ?ry3 (fun _ => HQ.out.1) ?rm3
          case ry3 => first | exact Or.inl ⟨by rfl, by intro w'; go_simp; first | done | rfl⟩
          case rm3 =>
          simp only [Act.put, List.setIfInBounds_toArray, List.set_cons_zero, List.set_cons_succ]
          refine anyT_put 4 20 ?rv4 #[true, true, true, true, true, false, false, false, false, false, false, false, false, false, false, false, false] rfl rfl rfl (by kernel_rfl) (by kernel_rfl) (by kernel_rfl) (fun _ _ _ h => h) (by decide) ?ry4 (fun _ => HQ.out.1) ?rm4
          case ry4 => first | exact Or.inl ⟨by rfl, by intro w'; go_simp; first | done | rfl⟩
          case rm4 =>
          simp only [Act.put, List.setIfInBounds_toArray, List.set_cons_zero, List.set_cons_succ]
          refine anyT_take 6 22 (.agg (ofg A)) #[true, true, true, true, true, false, true, false, false, false, false, false, false, false, false, false, false] rfl rfl rfl (by kernel_rfl) (by kernel_rfl) (by kernel_rfl) (fun _ _ _ h => h) (by kernel_rfl) (by decide) (by kernel_rfl) ?ry5 (HQ.out.1) ?rm5
          case ry5 => exact yld w.heap.size A (.tmp 2) (by rfl) (by rfl) (by rfl) (by intro _ h; exact h)
          case rm5 =>
          simp only [Act.put, List.setIfInBounds_toArray, List.set_cons_zero, List.set_cons_succ]
          refine anyT_put 7 23 ?rv6 #[true, true, true, true, true, false, true, true, false, false, false, false, false, false, false, false, false] rfl rfl rfl (by kernel_rfl) (by kernel_rfl) (by kernel_rfl) (fun _ _ _ h => h) (by decide) ?ry6 (fun _ => HQ.out.1) ?rm6
          case ry6 => first | exact Or.inl ⟨by rfl, by intro w'; go_simp; first | done | rfl⟩
          case rm6 =>
          simp only [Act.put, List.setIfInBounds_toArray, List.set_cons_zero, List.set_cons_succ]
          refine anyT_put 8 24 ?rv7 #[true, true, true, true, true, false, true, true, true, false, false, false, false, false, false, false, false] rfl rfl rfl (by kernel_rfl) (by kernel_rfl) (by kernel_rfl) (fun _ _ _ h => h) (by decide) ?ry7 (fun _ => HQ.out.1) ?rm7
          case ry7 => first | exact Or.inl ⟨by rfl, by intro w'; go_simp; first | done | rfl⟩
          case rm7 =>
          simp only [Act.put, List.setIfInBounds_toArray, List.set_cons_zero, List.set_cons_succ]
          refine anyT_put 10 26 ?rv8 #[true, true, true, true, true, false, true, true, true, false, true, false, false, false, false, false, false] rfl rfl rfl (by kernel_rfl) (by kernel_rfl) (by kernel_rfl) (fun _ _ _ h => h) (by decide) ?ry8 (fun _ => HQ.out.1) ?rm8
          case ry8 => first | exact Or.inl ⟨by rfl, by intro w'; go_simp; first | done | rfl⟩
          case rm8 =>
          simp only [Act.put, List.setIfInBounds_toArray, List.set_cons_zero, List.set_cons_succ]
          refine anyT_put 11 27 ?rv9 #[true, true, true, true, true, false, true, true, true, false, true, true, false, false, false, false, false] rfl rfl rfl (by kernel_rfl) (by kernel_rfl) (by kernel_rfl) (fun _ _ _ h => h) (by decide) ?ry9 (fun _ => HQ.out.1) ?rm9
          case ry9 => first | exact Or.inl ⟨by rfl, by intro w'; go_simp; first | done | rfl⟩
          case rm9 =>
          simp only [Act.put, List.setIfInBounds_toArray, List.set_cons_zero, List.set_cons_succ]
          refine anyT_put 14 30 ?rv10 #[true, true, true, true, true, false, true, true, true, false, true, true, false, false, true, false, false] rfl rfl rfl (by kernel_rfl) (by kernel_rfl) (by kernel_rfl) (fun _ _ _ h => h) (by decide) ?ry10 (fun _ => HQ.out.1) ?rm10
          case ry10 => first | exact Or.inl ⟨by rfl, by intro w'; go_simp; first | done | rfl⟩
          case rm10 =>
          simp only [Act.put, List.setIfInBounds_toArray, List.set_cons_zero, List.set_cons_succ]
          refine anyT_one 5 #[true, true, true, true, true, true, true, true, true, false, true, true, false, false, true, false, false] (by kernel_rfl) rfl rfl (fun K hK => ?_)
          go_simp
          go_wp2_with (go_at_call 29; refine (sign_any v H64.out.1 _).mono ?_; rintro e w3 ⟨rfl, hw3⟩; obtain rfl := hw3.symm)
          refine hK.out _ _ (fun _ => HQ.out.1) ?_
          clear hK K
          refine anyT_one 9 #[true, true, true, true, true, true, true, true, true, true, true, true, false, false, true, false, false] (by kernel_rfl) rfl rfl (fun K hK => ?_)
          go_simp
          go_wp2_with (go_at_call 43; refine (without_any A u t H64.out.2.1 H64.out.2.2.1 _).mono ?_; rintro e y1 ⟨rfl, hB1⟩)
          have hb1 : Below wr.heap.size wr y1 := hb0.trans (hB1.mono hb0.size)
          refine hK.out _ _ (fun _ => HQ.out.1.go hb1) ?_
          clear hK K
          refine anyT_one 12 #[true, true, true, true, true, true, true, true, true, true, true, true, true, false, true, false, false] (by kernel_rfl) rfl rfl (fun K hK => ?_)
          go_simp
          go_wp2_with (go_at_call 26; refine (det_any m H64.out.2.2.2 (wog u t A) _).mono ?_; rintro e y2 ⟨rfl, hB2⟩)
          have hb2 : Below wr.heap.size wr y2 := hb1.trans (hB2.mono hb1.size)
          have HQ2 : Hid (Gb y2 w.heap.size A ∧ Gb y2 (w.heap.size + 1) (fun _ _ => 0) ∧ Gb y2 (w.heap.size + 1 + 1) (sof n F t u) ∧ Below w.heap.size w y2) := ⟨HQ.out.1.go hb2, HQ.out.2.1.go hb2, HQ.out.2.2.1.go hb2, HQ.out.2.2.2.trans (hb2.mono HQ.out.2.2.2.size)⟩
          have c2 := HQ2.out.2.2.1.cell HIt.out.1 HIt.out.2
          have f2 := HQ2.out.2.2.1.fr (t * 6 + u)
          refine hK.out _ _ (fun _ => HQ.out.1.go hb2) ?_
          clear hK K
          refine anyT_put 13 29 ?rv14 #[true, true, true, true, true, true, true, true, true, true, true, true, true, true, true, false, false] rfl rfl rfl (by kernel_rfl) (by kernel_rfl) (by kernel_rfl) (fun _ _ _ h => h) (by decide) ?ry14 (fun _ => HQ.out.1.go hb2) ?rm14
          case ry14 => first | exact Or.inl ⟨by rfl, by intro w'; go_simp; first | done | rfl⟩
          case rm14 =>
          simp only [Act.put, List.setIfInBounds_toArray, List.set_cons_zero, List.set_cons_succ]
          refine anyT_one 15 #[true, true, true, true, true, true, true, true, true, true, true, true, true, true, true, true, false] (by kernel_rfl) rfl rfl (fun K hK => ?_)
          go_simp
          refine hK.out _ _ (fun h => absurd h (by decide)) ?_
          clear hK K
          refine anyT_one 16 #[true, true, true, true, true, true, true, true, true, true, true, true, true, true, true, true, true] (by kernel_rfl) rfl rfl (fun K hK => ?_)
          go_simp
          refine hK.out _ _ (fun h => absurd h (by decide)) ?_
          clear hK K
          refine anyT_done (by kernel_rfl) ?_
          clear c2 f2 hw3 HQ hB1 hB2 hb0 hb1 hb2
          simp only [IntWalk.i64_left]
          obtain ⟨w6, hw6⟩ : ∃ w6, w6 = y2.setCell ⟨w.heap.size + 1 + 1, t * 6 + u, none⟩ (.int .i64 (wrap64 (sg v * wrap64 (dt m (wog u t A))))) := ⟨_, rfl⟩
          rw [← hw6]
          have HQ6 : Hid (Gb w6 w.heap.size A ∧ Gb w6 (w.heap.size + 1) (fun _ _ => 0) ∧ Gb w6 (w.heap.size + 1 + 1) (sof n F t (u + 1)) ∧ Below w.heap.size w w6) := by
            show _ ∧ _
            rw [hw6, ← HV.out]
            exact ⟨(HQ2.out.1.ot (by show w.heap.size ≠ w.heap.size + 1 + 1; omega) _), (HQ2.out.2.1.ot (by show w.heap.size + 1 ≠ w.heap.size + 1 + 1; omega) _), (HQ2.out.2.2.1.put HIt.out.1 HIt.out.2 _), (HQ2.out.2.2.2.setCell (p := ⟨w.heap.size + 1 + 1, t * 6 + u, none⟩) (by show w.heap.size ≤ w.heap.size + 1 + 1; omega) _)⟩
          clear hw6 HQ2 HV
          go_wp2_with fail
          exact ⟨⟨u + 1, by omega, by go_num, HQ6.out⟩, by simp [intOf]; omega⟩
        · obtain rfl : u = n := by omega
          go_wp2_with fail
          exact ⟨⟨t + 1, by omega, by go_num, HQ.out.1, HQ.out.2.1, by rw [← sof_row]; exact HQ.out.2.2.1, HQ.out.2.2.2⟩, by simp [intOf]; omega⟩
    · obtain rfl : t = n := by omega
      have HE : Hid (Gb (wr.setRow (w.heap.size + 1) (ofg (ajg t A))) (w.heap.size + 1) (ajg t A)) := HQ.out.2.1.row
      have HL : Hid (Gb wr (w.heap.size + 1 + 1) (ajg t A)) := by rw [← HAll.out]; exact HQ.out.2.2.1
      go_wp2_with (first | refine wpl_ldg (w.heap.size + 1 + 1) (ajg t A) _ HL.out rfl rfl rfl ?_ | refine wpl_stg (w.heap.size + 1) _ (ajg t A) _ _ HQ.out.2.1 rfl rfl rfl rfl rfl ?_)
      refine bodyPost_ret (v := .agg (ofg (ajg t A))) ?_ rfl ⟨rfl, bel_row HQ.out.2.2.2 (by omega)⟩
      exact results_cell_row rfl _ _ (w.heap.size + 1) 52 _ (0, 0) _ rfl HE.out Tryd.underlying52 rfl (by rw [ofg_size]; exact Tryd.infoG)
end Go.Proofs.YtjaabemlpiafaaaDoor
