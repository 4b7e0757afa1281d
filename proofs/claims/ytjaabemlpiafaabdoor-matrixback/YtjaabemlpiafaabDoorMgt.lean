/-
  The program's products of matrices, the matrix that changes nothing, and each cell times a number.
-/
import Derived.Test.YtjaabemlpiafaabDoorMgb
import Derived.Test.YtjaabemlpiafaabDoorBase
namespace Go.Proofs.YtjaabemlpiafaabDoor
open Go.RowKit
set_option linter.unusedVariables false

/-- The rows of one with the columns of another one. -/
def tmg (A B : Mx) : Mx := fun i j => wrap64 (sm 6 fun k => A i k * B k j)
/-- 1 in the diagonal. -/
def ung (n : Nat) : Mx := fun i j => if i = j ∧ i < n then 1 else 0
theorem ung_next (n : Nat) : ptg (ung n) n n 1 = ung (n + 1) := by
  funext a b
  unfold ptg ung
  by_cases h : a = n ∧ b = n
  · rw [if_pos h, if_pos (by omega)]
  · rw [if_neg h]
    by_cases h2 : a = b ∧ a < n
    · rw [if_pos h2, if_pos (by omega)]
    · rw [if_neg h2, if_neg (by omega)]
theorem ung_none : ung 0 = fun _ _ => 0 := by
  funext a b
  unfold ung
  rw [if_neg (by omega)]
/-- Each cell times x, so far. -/
def scf (A : Mx) (x : Int) (i j : Nat) : Mx := fun a b => if a < i ∨ (a = i ∧ b < j) then wrap64 (A a b * x) else A a b
section
variable {A : Mx} {x : Int} {i j : Nat}
theorem scf_at : scf A x i j i j = A i j := by unfold scf; rw [if_neg (by omega)]
theorem scf_next : ptg (scf A x i j) i j (wrap64 (A i j * x)) = scf A x i (j + 1) := by
  funext a b
  unfold ptg scf
  by_cases h : a = i ∧ b = j
  · obtain ⟨rfl, rfl⟩ := h
    rw [if_pos ⟨rfl, rfl⟩, if_pos (by omega)]
  · rw [if_neg h]
    by_cases h2 : a < i ∨ (a = i ∧ b < j)
    · rw [if_pos h2, if_pos (by omega)]
    · rw [if_neg h2, if_neg (by omega)]
theorem scf_row : ∀ a, a < 6 → ∀ b, b < 6 → scf A x i 6 a b = scf A x (i + 1) 0 a b := fun a ha b hb => by
  unfold scf
  by_cases h2 : a < i ∨ (a = i ∧ b < 6)
  · rw [if_pos h2, if_pos (by omega)]
  · rw [if_neg h2, if_neg (by omega)]
theorem scf_all : ∀ a, a < 6 → ∀ b, b < 6 → scf A x 6 0 a b = wrap64 (A a b * x) := fun a ha b hb => by unfold scf; rw [if_pos (by omega)]
theorem scf_none : scf A x 0 0 = A := by funext a b; unfold scf; rw [if_neg (by omega)]
end
set_option maxRecDepth 100000 in
set_option maxHeartbeats 2000000 in
theorem scaled_any (A : Mx) (x : Int) (w : World) :
    Calls Tryd.prog 18 #[.agg (ofg A), .int .i64 x] w fun e w' => e = .returned (.agg (ofg fun i j => wrap64 (A i j * x))) ∧ Below w.heap.size w w' := by
  obtain ⟨F, hF⟩ : ∃ F : Mx, F = fun i j => wrap64 (A i j * x) := ⟨_, rfl⟩
  have HAll : Hid (∀ a, a < 6 → ∀ b, b < 6 → scf A x 6 0 a b = F a b) := by rw [hF]; exact scf_all
  rw [← hF]
  clear hF
  go_enter Tryd.func18, Tryd.ntmps18
  go_wp2_with fail
  rw [ofg_zero]
  obtain ⟨w0, hw0⟩ : ∃ w0, w0 = (w.alloc (.cells (ofg A) 44)).alloc (.cells (ofg fun _ _ => 0) 44) := ⟨_, rfl⟩
  rw [← hw0]
  have HQ0 : Hid (Gb w0 w.heap.size (scf A x 0 0) ∧ Gb w0 (w.heap.size + 1) (fun _ _ => 0) ∧ Below w.heap.size w w0) := by
    show _ ∧ _
    rw [hw0, scf_none]
    have h1 := Gb.new (w.alloc (.cells (ofg A) 44)) fun _ _ => 0
    rw [World.size_alloc] at h1
    exact ⟨(Gb.new w _).al _, h1, ((Below.refl _ w).alloc (Nat.le_refl _) _).alloc (by simp) _⟩
  clear hw0
  go_loopw [7] (fun i wr => ∃ t : Nat, t ≤ 6 ∧ i = .int .i64 t ∧ Gb wr w.heap.size (scf A x t 0) ∧ Gb wr (w.heap.size + 1) (fun _ _ => 0) ∧ Below w.heap.size w wr) (fun i _ => 6 - (intOf i).toNat)
  case atStart => exact ⟨0, Nat.zero_le _, rfl, HQ0.out⟩
  case round =>
    clear HQ0
    obtain ⟨t, ht, rfl, hQ⟩ := hrel
    have HQ : Hid (Gb wr w.heap.size (scf A x t 0) ∧ Gb wr (w.heap.size + 1) (fun _ _ => 0) ∧ Below w.heap.size w wr) := hQ
    clear hQ
    by_cases hlt : t < 6
    · have hd5 : decide ((t : Int) < 6) = true := by simp; omega
      go_wp2_with fail
      go_loopw [10] (fun i wr => ∃ u : Nat, u ≤ 6 ∧ i = .int .i64 u ∧ Gb wr w.heap.size (scf A x t u) ∧ Gb wr (w.heap.size + 1) (fun _ _ => 0) ∧ Below w.heap.size w wr) (fun i _ => 6 - (intOf i).toNat)
      case atStart => exact ⟨0, Nat.zero_le _, rfl, HQ.out⟩
      case round =>
        clear HQ
        obtain ⟨u, hu, rfl, hQ⟩ := hrel
        have HQ : Hid (Gb wr w.heap.size (scf A x t u) ∧ Gb wr (w.heap.size + 1) (fun _ _ => 0) ∧ Below w.heap.size w wr) := hQ
        clear hQ
        by_cases hul : u < 6
        · have c1 := HQ.out.1.cell hlt hul
          rw [scf_at] at c1
          have f1 := HQ.out.1.fr (t * 6 + u)
          have it : (t : Int) < 6 := by omega
          have iu : (u : Int) < 6 := by omega
          have HV : Hid (ptg (scf A x t u) t u (wrap64 (A t u * x)) = scf A x t (u + 1)) := scf_next
          generalize hX : A t u = X at *
          clear hX
          go_wp2_with fail
          refine anyT_begin 8 (fun w' => w'.cell? ⟨w.heap.size, t * 6 + u, none⟩ = some (.int .i64 X)) 10 #[false, false, false, false, false, false, false, false, false, false] (by kernel_rfl) rfl rfl ?_
          refine anyT_put 0 13 ?rv0 #[true, false, false, false, false, false, false, false, false, false] rfl rfl rfl (by kernel_rfl) (by kernel_rfl) (by kernel_rfl) (fun _ _ _ h => h) (by decide) ?ry0 (fun _ => c1) ?rm0
          case ry0 => first | exact Or.inl ⟨by rfl, by intro w'; go_simp; first | done | rfl⟩
          case rm0 =>
          simp only [Act.put, List.setIfInBounds_toArray, List.set_cons_zero, List.set_cons_succ]
          refine anyT_put 1 14 ?rv1 #[true, true, false, false, false, false, false, false, false, false] rfl rfl rfl (by kernel_rfl) (by kernel_rfl) (by kernel_rfl) (fun _ _ _ h => h) (by decide) ?ry1 (fun _ => c1) ?rm1
          case ry1 => first | exact Or.inl ⟨by rfl, by intro w'; go_simp; first | done | rfl⟩
          case rm1 =>
          simp only [Act.put, List.setIfInBounds_toArray, List.set_cons_zero, List.set_cons_succ]
          refine anyT_put 2 15 ?rv2 #[true, true, true, false, false, false, false, false, false, false] rfl rfl rfl (by kernel_rfl) (by kernel_rfl) (by kernel_rfl) (fun _ _ _ h => h) (by decide) ?ry2 (fun _ => c1) ?rm2
          case ry2 => first | exact Or.inl ⟨by rfl, by intro w'; go_simp; first | done | rfl⟩
          case rm2 =>
          simp only [Act.put, List.setIfInBounds_toArray, List.set_cons_zero, List.set_cons_succ]
          refine anyT_put 3 16 ?rv3 #[true, true, true, true, false, false, false, false, false, false] rfl rfl rfl (by kernel_rfl) (by kernel_rfl) (by kernel_rfl) (fun _ _ _ h => h) (by decide) ?ry3 (fun _ => c1) ?rm3
          case ry3 => first | exact Or.inl ⟨by rfl, by intro w'; go_simp; first | done | rfl⟩
          case rm3 =>
          simp only [Act.put, List.setIfInBounds_toArray, List.set_cons_zero, List.set_cons_succ]
          refine anyT_take 4 17 ?rv4 #[true, true, true, true, true, false, false, false, false, false] rfl rfl rfl (by kernel_rfl) (by kernel_rfl) (by kernel_rfl) (fun _ _ _ h => h) (by kernel_rfl) (by decide) (by kernel_rfl) ?ry4 (c1) ?rm4
          case ry4 => first | exact Or.inl ⟨by rfl, by intro w' hw'; (try dsimp only at hw'); go_simp; first | done | rfl⟩
          case rm4 =>
          simp only [Act.put, List.setIfInBounds_toArray, List.set_cons_zero, List.set_cons_succ]
          refine anyT_put 5 18 ?rv5 #[true, true, true, true, true, true, false, false, false, false] rfl rfl rfl (by kernel_rfl) (by kernel_rfl) (by kernel_rfl) (fun _ _ _ h => h) (by decide) ?ry5 (fun _ => c1) ?rm5
          case ry5 => first | exact Or.inl ⟨by rfl, by intro w'; go_simp; first | done | rfl⟩
          case rm5 =>
          simp only [Act.put, List.setIfInBounds_toArray, List.set_cons_zero, List.set_cons_succ]
          refine anyT_put 6 19 ?rv6 #[true, true, true, true, true, true, true, false, false, false] rfl rfl rfl (by kernel_rfl) (by kernel_rfl) (by kernel_rfl) (fun _ _ _ h => h) (by decide) ?ry6 (fun _ => c1) ?rm6
          case ry6 => first | exact Or.inl ⟨by rfl, by intro w'; go_simp; first | done | rfl⟩
          case rm6 =>
          simp only [Act.put, List.setIfInBounds_toArray, List.set_cons_zero, List.set_cons_succ]
          refine anyT_put 7 20 ?rv7 #[true, true, true, true, true, true, true, true, false, false] rfl rfl rfl (by kernel_rfl) (by kernel_rfl) (by kernel_rfl) (fun _ _ _ h => h) (by decide) ?ry7 (fun _ => c1) ?rm7
          case ry7 => first | exact Or.inl ⟨by rfl, by intro w'; go_simp; first | done | rfl⟩
          case rm7 =>
          simp only [Act.put, List.setIfInBounds_toArray, List.set_cons_zero, List.set_cons_succ]
          refine anyT_one 8 #[true, true, true, true, true, true, true, true, true, false] (by kernel_rfl) rfl rfl (fun K hK => ?_)
          go_simp
          refine hK.out _ _ (fun h => absurd h (by decide)) ?_
          clear hK K
          refine anyT_one 9 #[true, true, true, true, true, true, true, true, true, true] (by kernel_rfl) rfl rfl (fun K hK => ?_)
          go_simp
          refine hK.out _ _ (fun h => absurd h (by decide)) ?_
          clear hK K
          refine anyT_done (by kernel_rfl) ?_
          clear c1 f1
          simp only [IntWalk.i64_left]
          obtain ⟨w6, hw6⟩ : ∃ w6, w6 = (wr.setCell ⟨w.heap.size, t * 6 + u, none⟩ (.int .i64 (wrap64 (X * x)))).drew := ⟨_, rfl⟩
          rw [← hw6]
          have HQ6 : Hid (Gb w6 w.heap.size (scf A x t (u + 1)) ∧ Gb w6 (w.heap.size + 1) (fun _ _ => 0) ∧ Below w.heap.size w w6) := by
            show _ ∧ _
            rw [hw6, ← HV.out]
            exact ⟨(HQ.out.1.put hlt hul _).dr, (HQ.out.2.1.ot (by show w.heap.size + 1 ≠ w.heap.size; omega) _).dr, (HQ.out.2.2.setCell (p := ⟨w.heap.size, t * 6 + u, none⟩) (Nat.le_refl _) _).drew⟩
          clear hw6 HQ HV
          go_wp2_with fail
          exact ⟨⟨u + 1, by omega, by go_num, HQ6.out⟩, by simp [intOf]; omega⟩
        · obtain rfl : u = 6 := by omega
          go_wp2_with fail
          exact ⟨⟨t + 1, by omega, by go_num, HQ.out.1.congr scf_row, HQ.out.2⟩, by simp [intOf]; omega⟩
    · obtain rfl : t = 6 := by omega
      have HE : Hid (Gb (wr.setRow (w.heap.size + 1) (ofg F)) (w.heap.size + 1) F) := HQ.out.2.1.row
      have HL : Hid (Gb wr w.heap.size F) := HQ.out.1.congr HAll.out
      go_wp2_with (first | refine wpl_ldg w.heap.size F _ HL.out rfl rfl rfl ?_ | refine wpl_stg (w.heap.size + 1) _ F _ _ HQ.out.2.1 rfl rfl rfl rfl rfl ?_)
      refine bodyPost_ret (v := .agg (ofg F)) ?_ rfl ⟨rfl, bel_row HQ.out.2.2 (by omega)⟩
      exact results_cell_row rfl _ _ (w.heap.size + 1) 44 _ (0, 0) _ rfl HE.out Tryd.underlying44 rfl (by rw [ofg_size]; exact Tryd.infoG)
end Go.Proofs.YtjaabemlpiafaabDoor
