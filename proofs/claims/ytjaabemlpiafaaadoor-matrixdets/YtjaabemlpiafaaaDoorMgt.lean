/-
  The program's products of matrices, the matrix that changes nothing, and each cell times a number.
-/
import Derived.Test.YtjaabemlpiafaaaDoorMga
import Derived.Test.YtjaabemlpiafaaaDoorBase
namespace Go.Proofs.YtjaabemlpiafaaaDoor
open Go.RowKit
set_option linter.unusedVariables false

/-- The rows of one with the columns of another one. -/
def tmg (A B : Mx) : Mx := fun i j => wrap64 (sm 6 fun k => A i k * B k j)
set_option maxRecDepth 100000 in
set_option maxHeartbeats 2000000 in
theorem times_any (A B : Mx) (w : World) :
    Calls Tryd.prog 46 #[.agg (ofg A), .agg (ofg B)] w fun e w' => e = .returned (.agg (ofg (tmg A B))) ∧ Below w.heap.size w w' := by
  have HAll : Hid (∀ i, i < 6 → ∀ j, j < 6 → sof 6 (tmg A B) 6 0 i j = tmg A B i j) := fun i hi j hj => by rw [sof_all]; exact if_pos ⟨hi, hj⟩
  obtain ⟨F, hF⟩ : ∃ F : Mx, F = tmg A B := ⟨_, rfl⟩
  have HF : Hid (∀ i j, F i j = wrap64 (sm 6 fun k => A i k * B k j)) := fun i j => by rw [hF]; rfl
  rw [← hF] at HAll ⊢
  clear hF
  go_enter Tryd.func46, Tryd.ntmps46
  go_wp2_with fail
  rw [ofg_zero]
  obtain ⟨w0, hw0⟩ : ∃ w0, w0 = (((w.alloc (.cells (ofg A) 52)).alloc (.cells (ofg B) 52)).alloc (.cells (ofg fun _ _ => 0) 52)).alloc (.cells (ofg fun _ _ => 0) 52) := ⟨_, rfl⟩
  rw [← hw0]
  have HQ0 : Hid (Gb w0 w.heap.size A ∧ Gb w0 (w.heap.size + 1) B ∧ Gb w0 (w.heap.size + 1 + 1) (fun _ _ => 0) ∧ Gb w0 (w.heap.size + 1 + 1 + 1) (sof 6 F 0 0) ∧ Below w.heap.size w w0) := by
    show _ ∧ _
    rw [hw0, sof_none]
    have h1 := ((Gb.new (w.alloc (.cells (ofg A) 52)) B).al (.cells (ofg fun _ _ => 0) 52)).al (.cells (ofg fun _ _ => 0) 52)
    have h2 := ((Gb.new ((w.alloc (.cells (ofg A) 52)).alloc (.cells (ofg B) 52)) fun _ _ => 0).al (.cells (ofg fun _ _ => 0) 52))
    have h3 := Gb.new (((w.alloc (.cells (ofg A) 52)).alloc (.cells (ofg B) 52)).alloc (.cells (ofg fun _ _ => 0) 52)) fun _ _ => 0
    simp only [World.size_alloc] at h1 h2 h3
    exact ⟨(((Gb.new w A).al _).al _).al _, h1, h2, h3, ((((Below.refl _ w).alloc (Nat.le_refl _) _).alloc (by simp) _).alloc (by simp; omega) _).alloc (by simp; omega) _⟩
  clear hw0
  go_loopw [9] (fun i wr => ∃ t : Nat, t ≤ 6 ∧ i = .int .i64 t ∧ Gb wr w.heap.size A ∧ Gb wr (w.heap.size + 1) B ∧ Gb wr (w.heap.size + 1 + 1) (fun _ _ => 0) ∧ Gb wr (w.heap.size + 1 + 1 + 1) (sof 6 F t 0) ∧ Below w.heap.size w wr) (fun i _ => 6 - (intOf i).toNat)
  case atStart => exact ⟨0, Nat.zero_le _, rfl, HQ0.out⟩
  case round =>
    clear HQ0
    obtain ⟨t, ht, rfl, hQ⟩ := hrel
    have HQ : Hid (Gb wr w.heap.size A ∧ Gb wr (w.heap.size + 1) B ∧ Gb wr (w.heap.size + 1 + 1) (fun _ _ => 0) ∧ Gb wr (w.heap.size + 1 + 1 + 1) (sof 6 F t 0) ∧ Below w.heap.size w wr) := hQ
    clear hQ
    by_cases hlt : t < 6
    · have hd5 : decide ((t : Int) < 6) = true := by simp; omega
      go_wp2_with fail
      go_loopw [12] (fun i wr => ∃ u : Nat, u ≤ 6 ∧ i = .int .i64 u ∧ Gb wr w.heap.size A ∧ Gb wr (w.heap.size + 1) B ∧ Gb wr (w.heap.size + 1 + 1) (fun _ _ => 0) ∧ Gb wr (w.heap.size + 1 + 1 + 1) (sof 6 F t u) ∧ Below w.heap.size w wr) (fun i _ => 6 - (intOf i).toNat)
      case atStart => exact ⟨0, Nat.zero_le _, rfl, HQ.out⟩
      case round =>
        clear HQ
        obtain ⟨u, hu, rfl, hQ⟩ := hrel
        have HQ : Hid (Gb wr w.heap.size A ∧ Gb wr (w.heap.size + 1) B ∧ Gb wr (w.heap.size + 1 + 1) (fun _ _ => 0) ∧ Gb wr (w.heap.size + 1 + 1 + 1) (sof 6 F t u) ∧ Below w.heap.size w wr) := hQ
        clear hQ
        by_cases hul : u < 6
        · have hd6 : decide ((u : Int) < 6) = true := by simp; omega
          have HS0 : Hid (ptg (sof 6 F t u) t u (wrap64 (sm 0 fun q => A t q * B q u)) = sof 6 F t u) := ptg_same (by rw [sof_at]; exact (w_small (by decide) (by decide)).symm)
          have HS6 : Hid (ptg (sof 6 F t u) t u (wrap64 (sm 6 fun q => A t q * B q u)) = sof 6 F t (u + 1)) := by show _ = _; rw [← HF.out, sof_next hlt hul]
          go_wp2_with fail
          go_loopw [15] (fun i wr => ∃ k : Nat, k ≤ 6 ∧ i = .int .i64 k ∧ Gb wr w.heap.size A ∧ Gb wr (w.heap.size + 1) B ∧ Gb wr (w.heap.size + 1 + 1) (fun _ _ => 0) ∧ Gb wr (w.heap.size + 1 + 1 + 1) (ptg (sof 6 F t u) t u (wrap64 (sm k fun q => A t q * B q u))) ∧ Below w.heap.size w wr) (fun i _ => 6 - (intOf i).toNat)
          case atStart => exact ⟨0, Nat.zero_le _, rfl, by rw [HS0.out]; exact HQ.out⟩
          case round =>
            clear HQ
            obtain ⟨k, hk, rfl, hQ⟩ := hrel
            have HQ : Hid (Gb wr w.heap.size A ∧ Gb wr (w.heap.size + 1) B ∧ Gb wr (w.heap.size + 1 + 1) (fun _ _ => 0) ∧ Gb wr (w.heap.size + 1 + 1 + 1) (ptg (sof 6 F t u) t u (wrap64 (sm k fun q => A t q * B q u))) ∧ Below w.heap.size w wr) := hQ
            clear hQ
            by_cases hkl : k < 6
            · have c1 := HQ.out.1.cell hlt hkl
              have c2 := HQ.out.2.1.cell hkl hul
              have c3 := HQ.out.2.2.2.1.cell hlt hul
              rw [ptg_at] at c3
              have f3 := HQ.out.2.2.2.1.fr (t * 6 + u)
              have it : (t : Int) < 6 := by omega
              have iu : (u : Int) < 6 := by omega
              have ik : (k : Int) < 6 := by omega
              have HS : Hid (sm (k + 1) (fun q => A t q * B q u) = sm k (fun q => A t q * B q u) + A t k * B k u) := rfl
              generalize hS0 : sm k (fun q => A t q * B q u) = S0 at *
              generalize hX : A t k = X at *
              generalize hY : B k u = Y at *
              clear hS0 hX hY
              go_wp2_with fail
              refine anyT_begin 18 (fun w' => w'.cell? ⟨w.heap.size, t * 6 + k, none⟩ = some (.int .i64 X) ∧ w'.cell? ⟨w.heap.size + 1, k * 6 + u, none⟩ = some (.int .i64 Y) ∧ w'.cell? ⟨w.heap.size + 1 + 1 + 1, t * 6 + u, none⟩ = some (.int .i64 (wrap64 S0))) 20 #[false, false, false, false, false, false, false, false, false, false, false, false, false, false, false, false, false, false, false, false] (by kernel_rfl) rfl rfl ?_
              refine anyT_put 0 18 ?rv0 #[true, false, false, false, false, false, false, false, false, false, false, false, false, false, false, false, false, false, false, false] rfl rfl rfl (by kernel_rfl) (by kernel_rfl) (by kernel_rfl) (fun _ _ _ h => h) (by decide) ?ry0 (fun _ => ⟨c1, c2, c3⟩) ?rm0
              case ry0 => first | exact Or.inl ⟨by rfl, by intro w'; go_simp; first | done | rfl⟩
              case rm0 =>
              simp only [Act.put, List.setIfInBounds_toArray, List.set_cons_zero, List.set_cons_succ]
              refine anyT_put 1 19 ?rv1 #[true, true, false, false, false, false, false, false, false, false, false, false, false, false, false, false, false, false, false, false] rfl rfl rfl (by kernel_rfl) (by kernel_rfl) (by kernel_rfl) (fun _ _ _ h => h) (by decide) ?ry1 (fun _ => ⟨c1, c2, c3⟩) ?rm1
              case ry1 => first | exact Or.inl ⟨by rfl, by intro w'; go_simp; first | done | rfl⟩
              case rm1 =>
              simp only [Act.put, List.setIfInBounds_toArray, List.set_cons_zero, List.set_cons_succ]
              refine anyT_put 2 20 ?rv2 #[true, true, true, false, false, false, false, false, false, false, false, false, false, false, false, false, false, false, false, false] rfl rfl rfl (by kernel_rfl) (by kernel_rfl) (by kernel_rfl) (fun _ _ _ h => h) (by decide) ?ry2 (fun _ => ⟨c1, c2, c3⟩) ?rm2
              case ry2 => first | exact Or.inl ⟨by rfl, by intro w'; go_simp; first | done | rfl⟩
              case rm2 =>
              simp only [Act.put, List.setIfInBounds_toArray, List.set_cons_zero, List.set_cons_succ]
              refine anyT_put 3 21 ?rv3 #[true, true, true, true, false, false, false, false, false, false, false, false, false, false, false, false, false, false, false, false] rfl rfl rfl (by kernel_rfl) (by kernel_rfl) (by kernel_rfl) (fun _ _ _ h => h) (by decide) ?ry3 (fun _ => ⟨c1, c2, c3⟩) ?rm3
              case ry3 => first | exact Or.inl ⟨by rfl, by intro w'; go_simp; first | done | rfl⟩
              case rm3 =>
              simp only [Act.put, List.setIfInBounds_toArray, List.set_cons_zero, List.set_cons_succ]
              refine anyT_take 4 22 ?rv4 #[true, true, true, true, true, false, false, false, false, false, false, false, false, false, false, false, false, false, false, false] rfl rfl rfl (by kernel_rfl) (by kernel_rfl) (by kernel_rfl) (fun _ _ _ h => h) (by kernel_rfl) (by decide) (by kernel_rfl) ?ry4 (⟨c1, c2, c3⟩) ?rm4
              case ry4 => first | exact Or.inl ⟨by rfl, by intro w' hw'; (try dsimp only at hw'); go_simp; first | done | rfl⟩
              case rm4 =>
              simp only [Act.put, List.setIfInBounds_toArray, List.set_cons_zero, List.set_cons_succ]
              refine anyT_put 5 23 ?rv5 #[true, true, true, true, true, true, false, false, false, false, false, false, false, false, false, false, false, false, false, false] rfl rfl rfl (by kernel_rfl) (by kernel_rfl) (by kernel_rfl) (fun _ _ _ h => h) (by decide) ?ry5 (fun _ => ⟨c1, c2, c3⟩) ?rm5
              case ry5 => first | exact Or.inl ⟨by rfl, by intro w'; go_simp; first | done | rfl⟩
              case rm5 =>
              simp only [Act.put, List.setIfInBounds_toArray, List.set_cons_zero, List.set_cons_succ]
              refine anyT_put 6 24 ?rv6 #[true, true, true, true, true, true, true, false, false, false, false, false, false, false, false, false, false, false, false, false] rfl rfl rfl (by kernel_rfl) (by kernel_rfl) (by kernel_rfl) (fun _ _ _ h => h) (by decide) ?ry6 (fun _ => ⟨c1, c2, c3⟩) ?rm6
              case ry6 => first | exact Or.inl ⟨by rfl, by intro w'; go_simp; first | done | rfl⟩
              case rm6 =>
              simp only [Act.put, List.setIfInBounds_toArray, List.set_cons_zero, List.set_cons_succ]
              refine anyT_put 7 25 ?rv7 #[true, true, true, true, true, true, true, true, false, false, false, false, false, false, false, false, false, false, false, false] rfl rfl rfl (by kernel_rfl) (by kernel_rfl) (by kernel_rfl) (fun _ _ _ h => h) (by decide) ?ry7 (fun _ => ⟨c1, c2, c3⟩) ?rm7
              case ry7 => first | exact Or.inl ⟨by rfl, by intro w'; go_simp; first | done | rfl⟩
              case rm7 =>
              simp only [Act.put, List.setIfInBounds_toArray, List.set_cons_zero, List.set_cons_succ]
              refine anyT_put 8 26 ?rv8 #[true, true, true, true, true, true, true, true, true, false, false, false, false, false, false, false, false, false, false, false] rfl rfl rfl (by kernel_rfl) (by kernel_rfl) (by kernel_rfl) (fun _ _ _ h => h) (by decide) ?ry8 (fun _ => ⟨c1, c2, c3⟩) ?rm8
              case ry8 => first | exact Or.inl ⟨by rfl, by intro w'; go_simp; first | done | rfl⟩
              case rm8 =>
              simp only [Act.put, List.setIfInBounds_toArray, List.set_cons_zero, List.set_cons_succ]
              refine anyT_take 9 27 ?rv9 #[true, true, true, true, true, true, true, true, true, true, false, false, false, false, false, false, false, false, false, false] rfl rfl rfl (by kernel_rfl) (by kernel_rfl) (by kernel_rfl) (fun _ _ _ h => h) (by kernel_rfl) (by decide) (by kernel_rfl) ?ry9 (⟨c1, c2, c3⟩) ?rm9
              case ry9 => first | exact Or.inl ⟨by rfl, by intro w' hw'; (try dsimp only at hw'); go_simp; first | done | rfl⟩
              case rm9 =>
              simp only [Act.put, List.setIfInBounds_toArray, List.set_cons_zero, List.set_cons_succ]
              refine anyT_put 10 28 ?rv10 #[true, true, true, true, true, true, true, true, true, true, true, false, false, false, false, false, false, false, false, false] rfl rfl rfl (by kernel_rfl) (by kernel_rfl) (by kernel_rfl) (fun _ _ _ h => h) (by decide) ?ry10 (fun _ => ⟨c1, c2, c3⟩) ?rm10
              case ry10 => first | exact Or.inl ⟨by rfl, by intro w'; go_simp; first | done | rfl⟩
              case rm10 =>
              simp only [Act.put, List.setIfInBounds_toArray, List.set_cons_zero, List.set_cons_succ]
              refine anyT_put 11 29 ?rv11 #[true, true, true, true, true, true, true, true, true, true, true, true, false, false, false, false, false, false, false, false] rfl rfl rfl (by kernel_rfl) (by kernel_rfl) (by kernel_rfl) (fun _ _ _ h => h) (by decide) ?ry11 (fun _ => ⟨c1, c2, c3⟩) ?rm11
              case ry11 => first | exact Or.inl ⟨by rfl, by intro w'; go_simp; first | done | rfl⟩
              case rm11 =>
              simp only [Act.put, List.setIfInBounds_toArray, List.set_cons_zero, List.set_cons_succ]
              refine anyT_put 12 30 ?rv12 #[true, true, true, true, true, true, true, true, true, true, true, true, true, false, false, false, false, false, false, false] rfl rfl rfl (by kernel_rfl) (by kernel_rfl) (by kernel_rfl) (fun _ _ _ h => h) (by decide) ?ry12 (fun _ => ⟨c1, c2, c3⟩) ?rm12
              case ry12 => first | exact Or.inl ⟨by rfl, by intro w'; go_simp; first | done | rfl⟩
              case rm12 =>
              simp only [Act.put, List.setIfInBounds_toArray, List.set_cons_zero, List.set_cons_succ]
              refine anyT_put 13 31 ?rv13 #[true, true, true, true, true, true, true, true, true, true, true, true, true, true, false, false, false, false, false, false] rfl rfl rfl (by kernel_rfl) (by kernel_rfl) (by kernel_rfl) (fun _ _ _ h => h) (by decide) ?ry13 (fun _ => ⟨c1, c2, c3⟩) ?rm13
              case ry13 => first | exact Or.inl ⟨by rfl, by intro w'; go_simp; first | done | rfl⟩
              case rm13 =>
              simp only [Act.put, List.setIfInBounds_toArray, List.set_cons_zero, List.set_cons_succ]
              refine anyT_take 14 32 ?rv14 #[true, true, true, true, true, true, true, true, true, true, true, true, true, true, true, false, false, false, false, false] rfl rfl rfl (by kernel_rfl) (by kernel_rfl) (by kernel_rfl) (fun _ _ _ h => h) (by kernel_rfl) (by decide) (by kernel_rfl) ?ry14 (⟨c1, c2, c3⟩) ?rm14
              case ry14 => first | exact Or.inl ⟨by rfl, by intro w' hw'; (try dsimp only at hw'); go_simp; first | done | rfl⟩
              case rm14 =>
              simp only [Act.put, List.setIfInBounds_toArray, List.set_cons_zero, List.set_cons_succ]
              refine anyT_put 15 33 ?rv15 #[true, true, true, true, true, true, true, true, true, true, true, true, true, true, true, true, false, false, false, false] rfl rfl rfl (by kernel_rfl) (by kernel_rfl) (by kernel_rfl) (fun _ _ _ h => h) (by decide) ?ry15 (fun _ => ⟨c1, c2, c3⟩) ?rm15
              case ry15 => first | exact Or.inl ⟨by rfl, by intro w'; go_simp; first | done | rfl⟩
              case rm15 =>
              simp only [Act.put, List.setIfInBounds_toArray, List.set_cons_zero, List.set_cons_succ]
              refine anyT_put 16 34 ?rv16 #[true, true, true, true, true, true, true, true, true, true, true, true, true, true, true, true, true, false, false, false] rfl rfl rfl (by kernel_rfl) (by kernel_rfl) (by kernel_rfl) (fun _ _ _ h => h) (by decide) ?ry16 (fun _ => ⟨c1, c2, c3⟩) ?rm16
              case ry16 => first | exact Or.inl ⟨by rfl, by intro w'; go_simp; first | done | rfl⟩
              case rm16 =>
              simp only [Act.put, List.setIfInBounds_toArray, List.set_cons_zero, List.set_cons_succ]
              refine anyT_put 17 35 ?rv17 #[true, true, true, true, true, true, true, true, true, true, true, true, true, true, true, true, true, true, false, false] rfl rfl rfl (by kernel_rfl) (by kernel_rfl) (by kernel_rfl) (fun _ _ _ h => h) (by decide) ?ry17 (fun _ => ⟨c1, c2, c3⟩) ?rm17
              case ry17 => first | exact Or.inl ⟨by rfl, by intro w'; go_simp; first | done | rfl⟩
              case rm17 =>
              simp only [Act.put, List.setIfInBounds_toArray, List.set_cons_zero, List.set_cons_succ]
              refine anyT_one 18 #[true, true, true, true, true, true, true, true, true, true, true, true, true, true, true, true, true, true, true, false] (by kernel_rfl) rfl rfl (fun K hK => ?_)
              go_simp
              refine hK.out _ _ (fun h => absurd h (by decide)) ?_
              clear hK K
              refine anyT_one 19 #[true, true, true, true, true, true, true, true, true, true, true, true, true, true, true, true, true, true, true, true] (by kernel_rfl) rfl rfl (fun K hK => ?_)
              go_simp
              refine hK.out _ _ (fun h => absurd h (by decide)) ?_
              clear hK K
              refine anyT_done (by kernel_rfl) ?_
              clear c1 c2 c3 f3
              simp only [IntWalk.i64_left]
              obtain ⟨w6, hw6⟩ : ∃ w6, w6 = (wr.setCell ⟨w.heap.size + 1 + 1 + 1, t * 6 + u, none⟩ (.int .i64 (wrap64 (wrap64 S0 + wrap64 (X * Y))))).drew := ⟨_, rfl⟩
              rw [← hw6]
              have HQ6 : Hid (Gb w6 w.heap.size A ∧ Gb w6 (w.heap.size + 1) B ∧ Gb w6 (w.heap.size + 1 + 1) (fun _ _ => 0) ∧ Gb w6 (w.heap.size + 1 + 1 + 1) (ptg (sof 6 F t u) t u (wrap64 (sm (k + 1) fun q => A t q * B q u))) ∧ Below w.heap.size w w6) := by
                show _ ∧ _
                rw [hw6, HS.out, ← w_acc]
                exact ⟨(HQ.out.1.ot (by show w.heap.size ≠ w.heap.size + 1 + 1 + 1; omega) _).dr, (HQ.out.2.1.ot (by show w.heap.size + 1 ≠ w.heap.size + 1 + 1 + 1; omega) _).dr, (HQ.out.2.2.1.ot (by show w.heap.size + 1 + 1 ≠ w.heap.size + 1 + 1 + 1; omega) _).dr, by have := (HQ.out.2.2.2.1.put hlt hul (wrap64 (wrap64 S0 + wrap64 (X * Y)))).dr; rwa [ptg_ptg] at this, (HQ.out.2.2.2.2.setCell (p := ⟨w.heap.size + 1 + 1 + 1, t * 6 + u, none⟩) (by show w.heap.size ≤ w.heap.size + 1 + 1 + 1; omega) _).drew⟩
              clear hw6 HQ HS
              go_wp2_with fail
              exact ⟨⟨k + 1, by omega, by go_num, HQ6.out⟩, by simp [intOf]; omega⟩
            · obtain rfl : k = 6 := by omega
              rw [HS6.out] at HQ
              go_wp2_with fail
              exact ⟨⟨u + 1, by omega, by go_num, HQ.out⟩, by simp [intOf]; omega⟩
        · obtain rfl : u = 6 := by omega
          go_wp2_with fail
          exact ⟨⟨t + 1, by omega, by go_num, HQ.out.1, HQ.out.2.1, HQ.out.2.2.1, by rw [← sof_row]; exact HQ.out.2.2.2.1, HQ.out.2.2.2.2⟩, by simp [intOf]; omega⟩
    · obtain rfl : t = 6 := by omega
      have HE : Hid (Gb (wr.setRow (w.heap.size + 1 + 1) (ofg F)) (w.heap.size + 1 + 1) F) := HQ.out.2.2.1.row
      have HL : Hid (Gb wr (w.heap.size + 1 + 1 + 1) F) := HQ.out.2.2.2.1.congr HAll.out
      go_wp2_with (first | refine wpl_ldg (w.heap.size + 1 + 1 + 1) F _ HL.out rfl rfl rfl ?_ | refine wpl_stg (w.heap.size + 1 + 1) _ F _ _ HQ.out.2.2.1 rfl rfl rfl rfl rfl ?_)
      refine bodyPost_ret (v := .agg (ofg F)) ?_ rfl ⟨rfl, bel_row HQ.out.2.2.2.2 (by omega)⟩
      exact results_cell_row rfl _ _ (w.heap.size + 1 + 1) 52 _ (0, 0) _ rfl HE.out Tryd.underlying52 rfl (by rw [ofg_size]; exact Tryd.infoG)
/-- 1 in the diagonal. -/
def ung (n : Nat) : Mx := fun i j => if i = j ∧ i < n then 1 else 0
theorem ung_next (n : Nat) : ptg (ung n) n n 1 = ung (n + 1) := by
  funext a b
  unfold ptg ung
  by_cases h : a = n ∧ b = n
  · rw [if_pos h, if_pos (by omega)]
  · rw [if_neg h]
    by_cases h2 : a = b ∧ a < n
    · rw [if_pos h2, if_pos (by omega)]
    · rw [if_neg h2, if_neg (by omega)]
theorem ung_none : ung 0 = fun _ _ => 0 := by
  funext a b
  unfold ung
  rw [if_neg (by omega)]
set_option maxRecDepth 100000 in
set_option maxHeartbeats 2000000 in
theorem unit_any (n : Nat) (hn : n ≤ 6) (w : World) :
    Calls Tryd.prog 45 #[.int .i64 (n : Nat)] w fun e w' => e = .returned (.agg (ofg (ung n))) ∧ Below w.heap.size w w' := by
  go_enter Tryd.func45, Tryd.ntmps45
  go_wp2_with fail
  rw [ofg_zero]
  obtain ⟨w0, hw0⟩ : ∃ w0, w0 = (w.alloc (.cells (ofg fun _ _ => 0) 52)).alloc (.cells (ofg fun _ _ => 0) 52) := ⟨_, rfl⟩
  rw [← hw0]
  have HQ0 : Hid (Gb w0 w.heap.size (fun _ _ => 0) ∧ Gb w0 (w.heap.size + 1) (ung 0) ∧ Below w.heap.size w w0) := by
    show _ ∧ _
    rw [hw0, ung_none]
    have h1 := Gb.new (w.alloc (.cells (ofg fun _ _ => 0) 52)) fun _ _ => 0
    rw [World.size_alloc] at h1
    exact ⟨(Gb.new w _).al _, h1, ((Below.refl _ w).alloc (Nat.le_refl _) _).alloc (by simp) _⟩
  clear hw0
  go_loopw [6] (fun i wr => ∃ t : Nat, t ≤ n ∧ i = .int .i64 t ∧ Gb wr w.heap.size (fun _ _ => 0) ∧ Gb wr (w.heap.size + 1) (ung t) ∧ Below w.heap.size w wr) (fun i _ => n - (intOf i).toNat)
  case atStart => exact ⟨0, Nat.zero_le _, rfl, HQ0.out⟩
  case round =>
    clear HQ0
    obtain ⟨t, ht, rfl, hQ⟩ := hrel
    have HQ : Hid (Gb wr w.heap.size (fun _ _ => 0) ∧ Gb wr (w.heap.size + 1) (ung t) ∧ Below w.heap.size w wr) := hQ
    clear hQ
    by_cases hlt : t < n
    · have t6 : t < 6 := by omega
      have c1 := HQ.out.2.1.cell t6 t6
      have f1 := HQ.out.2.1.fr (t * 6 + t)
      have it : (t : Int) < 6 := by omega
      go_wp2_with fail
      exact ⟨⟨t + 1, by omega, by go_num, HQ.out.1.ot (by show w.heap.size ≠ w.heap.size + 1; omega) _, by rw [← ung_next]; exact HQ.out.2.1.put t6 t6 _, HQ.out.2.2.setCell (p := ⟨w.heap.size + 1, t * 6 + t, none⟩) (by show w.heap.size ≤ w.heap.size + 1; omega) _⟩, by simp [intOf]; omega⟩
    · obtain rfl : t = n := by omega
      have HE : Hid (Gb (wr.setRow w.heap.size (ofg (ung t))) w.heap.size (ung t)) := HQ.out.1.row
      go_wp2_with (first | refine wpl_ldg (w.heap.size + 1) (ung t) _ HQ.out.2.1 rfl rfl rfl ?_ | refine wpl_stg w.heap.size _ (ung t) _ _ HQ.out.1 rfl rfl rfl rfl rfl ?_)
      refine bodyPost_ret (v := .agg (ofg (ung t))) ?_ rfl ⟨rfl, bel_row HQ.out.2.2 (Nat.le_refl _)⟩
      exact results_cell_row rfl _ _ w.heap.size 52 _ (0, 0) _ rfl HE.out Tryd.underlying52 rfl (by rw [ofg_size]; exact Tryd.infoG)
/-- Each cell times x, so far. -/
def scf (A : Mx) (x : Int) (i j : Nat) : Mx := fun a b => if a < i ∨ (a = i ∧ b < j) then wrap64 (A a b * x) else A a b
section
variable {A : Mx} {x : Int} {i j : Nat}
theorem scf_at : scf A x i j i j = A i j := by unfold scf; rw [if_neg (by omega)]
theorem scf_next : ptg (scf A x i j) i j (wrap64 (A i j * x)) = scf A x i (j + 1) := by
  funext a b
  unfold ptg scf
  by_cases h : a = i ∧ b = j
  · obtain ⟨rfl, rfl⟩ := h
    rw [if_pos ⟨rfl, rfl⟩, if_pos (by omega)]
  · rw [if_neg h]
    by_cases h2 : a < i ∨ (a = i ∧ b < j)
    · rw [if_pos h2, if_pos (by omega)]
    · rw [if_neg h2, if_neg (by omega)]
theorem scf_row : ∀ a, a < 6 → ∀ b, b < 6 → scf A x i 6 a b = scf A x (i + 1) 0 a b := fun a ha b hb => by
  unfold scf
  by_cases h2 : a < i ∨ (a = i ∧ b < 6)
  · rw [if_pos h2, if_pos (by omega)]
  · rw [if_neg h2, if_neg (by omega)]
theorem scf_all : ∀ a, a < 6 → ∀ b, b < 6 → scf A x 6 0 a b = wrap64 (A a b * x) := fun a ha b hb => by unfold scf; rw [if_pos (by omega)]
theorem scf_none : scf A x 0 0 = A := by funext a b; unfold scf; rw [if_neg (by omega)]
end
set_option maxRecDepth 100000 in
set_option maxHeartbeats 2000000 in
theorem scaled_any (A : Mx) (x : Int) (w : World) :
    Calls Tryd.prog 38 #[.agg (ofg A), .int .i64 x] w fun e w' => e = .returned (.agg (ofg fun i j => wrap64 (A i j * x))) ∧ Below w.heap.size w w' := by
  obtain ⟨F, hF⟩ : ∃ F : Mx, F = fun i j => wrap64 (A i j * x) := ⟨_, rfl⟩
  have HAll : Hid (∀ a, a < 6 → ∀ b, b < 6 → scf A x 6 0 a b = F a b) := by rw [hF]; exact scf_all
  rw [← hF]
  clear hF
  go_enter Tryd.func38, Tryd.ntmps38
  go_wp2_with fail
  rw [ofg_zero]
  obtain ⟨w0, hw0⟩ : ∃ w0, w0 = (w.alloc (.cells (ofg A) 52)).alloc (.cells (ofg fun _ _ => 0) 52) := ⟨_, rfl⟩
  rw [← hw0]
  have HQ0 : Hid (Gb w0 w.heap.size (scf A x 0 0) ∧ Gb w0 (w.heap.size + 1) (fun _ _ => 0) ∧ Below w.heap.size w w0) := by
    show _ ∧ _
    rw [hw0, scf_none]
    have h1 := Gb.new (w.alloc (.cells (ofg A) 52)) fun _ _ => 0
    rw [World.size_alloc] at h1
    exact ⟨(Gb.new w _).al _, h1, ((Below.refl _ w).alloc (Nat.le_refl _) _).alloc (by simp) _⟩
  clear hw0
  go_loopw [7] (fun i wr => ∃ t : Nat, t ≤ 6 ∧ i = .int .i64 t ∧ Gb wr w.heap.size (scf A x t 0) ∧ Gb wr (w.heap.size + 1) (fun _ _ => 0) ∧ Below w.heap.size w wr) (fun i _ => 6 - (intOf i).toNat)
  case atStart => exact ⟨0, Nat.zero_le _, rfl, HQ0.out⟩
  case round =>
    clear HQ0
    obtain ⟨t, ht, rfl, hQ⟩ := hrel
    have HQ : Hid (Gb wr w.heap.size (scf A x t 0) ∧ Gb wr (w.heap.size + 1) (fun _ _ => 0) ∧ Below w.heap.size w wr) := hQ
    clear hQ
    by_cases hlt : t < 6
    · have hd5 : decide ((t : Int) < 6) = true := by simp; omega
      go_wp2_with fail
      go_loopw [10] (fun i wr => ∃ u : Nat, u ≤ 6 ∧ i = .int .i64 u ∧ Gb wr w.heap.size (scf A x t u) ∧ Gb wr (w.heap.size + 1) (fun _ _ => 0) ∧ Below w.heap.size w wr) (fun i _ => 6 - (intOf i).toNat)
      case atStart => exact ⟨0, Nat.zero_le _, rfl, HQ.out⟩
      case round =>
        clear HQ
        obtain ⟨u, hu, rfl, hQ⟩ := hrel
        have HQ : Hid (Gb wr w.heap.size (scf A x t u) ∧ Gb wr (w.heap.size + 1) (fun _ _ => 0) ∧ Below w.heap.size w wr) := hQ
        clear hQ
        by_cases hul : u < 6
        · have c1 := HQ.out.1.cell hlt hul
          rw [scf_at] at c1
          have f1 := HQ.out.1.fr (t * 6 + u)
          have it : (t : Int) < 6 := by omega
          have iu : (u : Int) < 6 := by omega
          have HV : Hid (ptg (scf A x t u) t u (wrap64 (A t u * x)) = scf A x t (u + 1)) := scf_next
          generalize hX : A t u = X at *
          clear hX
          go_wp2_with fail
          refine anyT_begin 8 (fun w' => w'.cell? ⟨w.heap.size, t * 6 + u, none⟩ = some (.int .i64 X)) 10 #[false, false, false, false, false, false, false, false, false, false] (by kernel_rfl) rfl rfl ?_
          refine anyT_put 0 13 ?rv20 #[true, false, false, false, false, false, false, false, false, false] rfl rfl rfl (by kernel_rfl) (by kernel_rfl) (by kernel_rfl) (fun _ _ _ h => h) (by decide) ?ry20 (fun _ => c1) ?rm20
          case ry20 => first | exact Or.inl ⟨by rfl, by intro w'; go_simp; first | done | rfl⟩
          case rm20 =>
          simp only [Act.put, List.setIfInBounds_toArray, List.set_cons_zero, List.set_cons_succ]
          refine anyT_put 1 14 ?rv21 #[true, true, false, false, false, false, false, false, false, false] rfl rfl rfl (by kernel_rfl) (by kernel_rfl) (by kernel_rfl) (fun _ _ _ h => h) (by decide) ?ry21 (fun _ => c1) ?rm21
          case ry21 => first | exact Or.inl ⟨by rfl, by intro w'; go_simp; first | done | rfl⟩
          case rm21 =>
          simp only [Act.put, List.setIfInBounds_toArray, List.set_cons_zero, List.set_cons_succ]
          refine anyT_put 2 15 ?rv22 #[true, true, true, false, false, false, false, false, false, false] rfl rfl rfl (by kernel_rfl) (by kernel_rfl) (by kernel_rfl) (fun _ _ _ h => h) (by decide) ?ry22 (fun _ => c1) ?rm22
          case ry22 => first | exact Or.inl ⟨by rfl, by intro w'; go_simp; first | done | rfl⟩
          case rm22 =>
          simp only [Act.put, List.setIfInBounds_toArray, List.set_cons_zero, List.set_cons_succ]
          refine anyT_put 3 16 ?rv23 #[true, true, true, true, false, false, false, false, false, false] rfl rfl rfl (by kernel_rfl) (by kernel_rfl) (by kernel_rfl) (fun _ _ _ h => h) (by decide) ?ry23 (fun _ => c1) ?rm23
          case ry23 => first | exact Or.inl ⟨by rfl, by intro w'; go_simp; first | done | rfl⟩
          case rm23 =>
          simp only [Act.put, List.setIfInBounds_toArray, List.set_cons_zero, List.set_cons_succ]
          refine anyT_take 4 17 ?rv24 #[true, true, true, true, true, false, false, false, false, false] rfl rfl rfl (by kernel_rfl) (by kernel_rfl) (by kernel_rfl) (fun _ _ _ h => h) (by kernel_rfl) (by decide) (by kernel_rfl) ?ry24 (c1) ?rm24
          case ry24 => first | exact Or.inl ⟨by rfl, by intro w' hw'; (try dsimp only at hw'); go_simp; first | done | rfl⟩
          case rm24 =>
          simp only [Act.put, List.setIfInBounds_toArray, List.set_cons_zero, List.set_cons_succ]
          refine anyT_put 5 18 ?rv25 #[true, true, true, true, true, true, false, false, false, false] rfl rfl rfl (by kernel_rfl) (by kernel_rfl) (by kernel_rfl) (fun _ _ _ h => h) (by decide) ?ry25 (fun _ => c1) ?rm25
          case ry25 => first | exact Or.inl ⟨by rfl, by intro w'; go_simp; first | done | rfl⟩
          case rm25 =>
          simp only [Act.put, List.setIfInBounds_toArray, List.set_cons_zero, List.set_cons_succ]
          refine anyT_put 6 19 ?rv26 #[true, true, true, true, true, true, true, false, false, false] rfl rfl rfl (by kernel_rfl) (by kernel_rfl) (by kernel_rfl) (fun _ _ _ h => h) (by decide) ?ry26 (fun _ => c1) ?rm26
          case ry26 => first | exact Or.inl ⟨by rfl, by intro w'; go_simp; first | done | rfl⟩
          case rm26 =>
          simp only [Act.put, List.setIfInBounds_toArray, List.set_cons_zero, List.set_cons_succ]
          refine anyT_put 7 20 ?rv27 #[true, true, true, true, true, true, true, true, false, false] rfl rfl rfl (by kernel_rfl) (by kernel_rfl) (by kernel_rfl) (fun _ _ _ h => h) (by decide) ?ry27 (fun _ => c1) ?rm27
          case ry27 => first | exact Or.inl ⟨by rfl, by intro w'; go_simp; first | done | rfl⟩
          case rm27 =>
          simp only [Act.put, List.setIfInBounds_toArray, List.set_cons_zero, List.set_cons_succ]
          refine anyT_one 8 #[true, true, true, true, true, true, true, true, true, false] (by kernel_rfl) rfl rfl (fun K hK => ?_)
          go_simp
          refine hK.out _ _ (fun h => absurd h (by decide)) ?_
          clear hK K
          refine anyT_one 9 #[true, true, true, true, true, true, true, true, true, true] (by kernel_rfl) rfl rfl (fun K hK => ?_)
          go_simp
          refine hK.out _ _ (fun h => absurd h (by decide)) ?_
          clear hK K
          refine anyT_done (by kernel_rfl) ?_
          clear c1 f1
          simp only [IntWalk.i64_left]
          obtain ⟨w6, hw6⟩ : ∃ w6, w6 = (wr.setCell ⟨w.heap.size, t * 6 + u, none⟩ (.int .i64 (wrap64 (X * x)))).drew := ⟨_, rfl⟩
          rw [← hw6]
          have HQ6 : Hid (Gb w6 w.heap.size (scf A x t (u + 1)) ∧ Gb w6 (w.heap.size + 1) (fun _ _ => 0) ∧ Below w.heap.size w w6) := by
            show _ ∧ _
            rw [hw6, ← HV.out]
            exact ⟨(HQ.out.1.put hlt hul _).dr, (HQ.out.2.1.ot (by show w.heap.size + 1 ≠ w.heap.size; omega) _).dr, (HQ.out.2.2.setCell (p := ⟨w.heap.size, t * 6 + u, none⟩) (Nat.le_refl _) _).drew⟩
          clear hw6 HQ HV
          go_wp2_with fail
          exact ⟨⟨u + 1, by omega, by go_num, HQ6.out⟩, by simp [intOf]; omega⟩
        · obtain rfl : u = 6 := by omega
          go_wp2_with fail
          exact ⟨⟨t + 1, by omega, by go_num, HQ.out.1.congr scf_row, HQ.out.2⟩, by simp [intOf]; omega⟩
    · obtain rfl : t = 6 := by omega
      have HE : Hid (Gb (wr.setRow (w.heap.size + 1) (ofg F)) (w.heap.size + 1) F) := HQ.out.2.1.row
      have HL : Hid (Gb wr w.heap.size F) := HQ.out.1.congr HAll.out
      go_wp2_with (first | refine wpl_ldg w.heap.size F _ HL.out rfl rfl rfl ?_ | refine wpl_stg (w.heap.size + 1) _ F _ _ HQ.out.2.1 rfl rfl rfl rfl rfl ?_)
      refine bodyPost_ret (v := .agg (ofg F)) ?_ rfl ⟨rfl, bel_row HQ.out.2.2 (by omega)⟩
      exact results_cell_row rfl _ _ (w.heap.size + 1) 52 _ (0, 0) _ rfl HE.out Tryd.underlying52 rfl (by rw [ofg_size]; exact Tryd.infoG)
end Go.Proofs.YtjaabemlpiafaaaDoor
