/-
  The library's sort in place, of numbers: one after the other goes down to its place.
-/
import Derived.Test.YtmbgomljofngnabSrts
import Derived.Test.YtmbgomljofngnabBase
namespace Go.Proofs.Ytmbgomljofngnab
open Go.RowKit
set_option linter.unusedVariables false

/-- A function value that tells how two numbers stand, wherever nothing but a row has changed. -/
def CmpF (f : Nat) (cs : List Value) (n : Nat) (c : Nat → Nat → Int) (S : Nat) (w0 : World) : Prop :=
  ∀ (x y : Nat) (W : World), x < n → y < n → w0.grownBy W (some S) → Calls Try.prog f (.int .i64 (x : Nat) :: .int .i64 (y : Nat) :: cs).toArray W fun r W' => r = .returned (.int .i64 (c x y)) ∧ Below W.heap.size W W'
/-- A part of a row is in order, and nothing else has changed. -/
def Sod (S n : Nat) (lt : Nat → Nat → Bool) (a b : Nat) (z : List Int) (w : World) (r : Ending) (w' : World) : Prop :=
  (∃ v, r = .returned v) ∧ ∃ z', w'.rowIs S 3 n (zc z') ∧ w.grownBy w' (some S) ∧ Mv a b z z' ∧ Ris lt z' a b
theorem sgrown_bel {a w w' : World} {row : Option Nat} (h : a.grownBy w row) (k : Below w.heap.size w w') : a.grownBy w' row :=
  sgrown_t h ⟨k.os, k.tape, k.output, k.size, fun i hi _ => k.block i hi⟩
theorem zc_at {W : World} {S n : Nat} {z : List Int} (h : W.rowIs S 3 n (zc z)) (ho : IsOrd z) (hl : z.length = n) {i : Nat} (hi : i < n) : W.cell? ⟨S, i, none⟩ = some (.int .i64 ((nt z i : Nat) : Int)) := by
  rw [h.cell hi]
  unfold zc nt
  rw [(ord_at ho (i := i) (by omega)).2]
theorem nt_nth {z : List Int} (ho : IsOrd z) {i : Nat} (hi : i < z.length) : nth z i = ((nt z i : Nat) : Int) := ((ord_at ho hi).2).symm
/-- Two cells of a row change places. -/
theorem zc_swap2 {W : World} {S n : Nat} {q q' : List Int} (h : W.rowIs S 3 n (zc q)) (hl : q.length = n) {i j : Nat} (hi : i < n) (hj : j < n) {xi xj : Int} (ei : nth q i = xi) (ej : nth q j = xj) (e : (q.set i (nth q j)).set j (nth q i) = q') :
    ((W.setCell ⟨S, i, none⟩ (.int .i64 xj)).setCell ⟨S, j, none⟩ (.int .i64 xi)).rowIs S 3 n (zc q') := by
  subst ei ej e
  exact zc_swap h hl hi hj
set_option maxRecDepth 100000 in
set_option maxHeartbeats 4000000 in
theorem ins_any (S n sc : Nat) (f : Nat) (cs : List Value) (hE : ∀ args w, (callFunc f args).run Try.prog w = .ok (.enter f args) w) (lt : Nat → Nat → Bool) (c : Nat → Nat → Int) (T : Tot lt n) (hcl : ∀ x y, x < n → y < n → y < x → (c x y < 0 ↔ lt x y = true)) (w0 : World) (hC : CmpF f cs n c S w0)
    (a b : Nat) (z : List Int) (hl : z.length = n) (ho : IsOrd z) (hn : n ≤ 4096) (hab : a ≤ b) (hb : b ≤ n) (hup : ∀ p q, a ≤ p → p < q → q < b → nt z p < nt z q) (w : World) (hw : w0.grownBy w (some S)) (hrow : w.rowIs S 3 n (zc z)) :
    Calls Try.prog 82 #[.slice (some ⟨S, 0, none⟩) n sc, .int .i64 (a : Nat), .int .i64 (b : Nat), .func (.func f) #[] cs.toArray] w (Sod S n lt a b z w) := by
  have HR : Hid (w.rowIs S 3 n (zc z)) := hrow
  have HL : Hid (z.length = n ∧ IsOrd z) := ⟨hl, ho⟩
  have HT : Hid (Tot lt n ∧ (∀ x y, x < n → y < n → y < x → (c x y < 0 ↔ lt x y = true))) := ⟨T, hcl⟩
  have HC : Hid (CmpF f cs n c S w0) := hC
  have HU : Hid (∀ p q, a ≤ p → p < q → q < b → nt z p < nt z q) := hup
  have HW0 : Hid (w0.grownBy w (some S)) := hw
  clear hrow hl ho T hcl hC hup hw
  go_enter Try.func82, Try.ntmps82
  go_wp2_with fail
  go_loopw [8] (fun vi wr => ∃ (i : Nat) (zr : List Int), a + 1 ≤ i ∧ (i ≤ b ∨ i = a + 1) ∧ vi = .int .i64 i ∧ wr.rowIs S 3 n (zc zr) ∧ w.grownBy wr (some S) ∧ Mv a (min i b) z zr ∧ Ris lt zr a i) (fun vi _ => b - (intOf vi).toNat)
  case atStart => exact ⟨a + 1, z, Nat.le_refl _, .inr rfl, by go_num, HR.out, World.grownBy.refl _ _, Mv.refl _ _ _, Ris.one _ _ (Nat.le_refl _)⟩
  case round =>
    obtain ⟨i, zr, hi, hi2, rfl, hrow, hG, hM, hr⟩ := hrel
    by_cases hib : i < b
    · rw [Nat.min_eq_left (by omega)] at hM
      have hLr : zr.length = n := by rw [hM.len]; exact HL.out.1
      have hOr : IsOrd zr := hM.ord (by have := HL.out.1; omega) HL.out.2
      have HZ : Hid (zr.length = n ∧ IsOrd zr ∧ Mv a i z zr ∧ Ris lt zr a i) := ⟨hLr, hOr, hM, hr⟩
      have HX : Hid (∀ k, a ≤ k → k < i → nt zr k < nt zr i) := fun k k1 k2 => by
        obtain ⟨k', h5, h6, h7⟩ := hM.ins (by have := HL.out.1; omega) k1 k2
        rw [show nt zr k = nt z k' by unfold nt; rw [h7], show nt zr i = nt z i by unfold nt; rw [hM.out (by have := HL.out.1; omega) (.inr (Nat.le_refl _))]]
        exact HU.out k' i h5 h6 hib
      have HRi : Hid (wr.rowIs S 3 n (zc zr)) := hrow
      have HGi : Hid (w.grownBy wr (some S)) := hG
      clear hrow hG hM hr hLr hOr
      go_wp2_with fail
      go_loopw [9] (fun vj wq => ∃ j : Nat, a ≤ j ∧ j ≤ i ∧ vj = .int .i64 j ∧ wq.rowIs S 3 n (zc (mvL (shR j i) zr)) ∧ w.grownBy wq (some S) ∧ ∀ k, j ≤ k → k < i → lt (nt zr i) (nt zr k) = true) (fun vj _ => (intOf vj).toNat)
      case atStart => exact ⟨i, by omega, Nat.le_refl _, rfl, by rw [shR_zero]; exact HRi.out, HGi.out, fun k h1 h2 => by omega⟩
      case round =>
        obtain ⟨j, hj1, hj2, rfl, hrow, hG, hlt⟩ := hrel
        have hF := shR_fx (a := a) (b := i + 1) (j := j) (i := i) hj1 hj2 (Nat.lt_succ_self _)
        have hMq : Mv a (i + 1) zr (mvL (shR j i) zr) := ⟨_, rfl, hF⟩
        have hLq : (mvL (shR j i) zr).length = n := by rw [mvL_length]; exact HZ.out.1
        have hOq : IsOrd (mvL (shR j i) zr) := hMq.ord (by rw [HZ.out.1]; omega) HZ.out.2.1
        have HMq : Hid (Mv a (i + 1) zr (mvL (shR j i) zr)) := hMq
        have HLt : Hid (∀ k, j ≤ k → k < i → lt (nt zr i) (nt zr k) = true) := hlt
        have HGq : Hid (w.grownBy wr (some S)) := hG
        have HRq : Hid (wr.rowIs S 3 n (zc (mvL (shR j i) zr))) := hrow
        have hSz : S < wr.heap.size := hrow.lt
        clear hF hMq hlt
        by_cases hja : a < j
        · obtain ⟨J, hJ⟩ : ∃ J, j = J + 1 := ⟨j - 1, by omega⟩
          have hjn : j < n := by omega
          have hJn : J < n := by omega
          have cj := zc_at hrow hOq hLq hjn
          have cJ := zc_at hrow hOq hLq hJn
          have eX : nt (mvL (shR j i) zr) j = nt zr i := by unfold nt; rw [shR_at hj2 (by rw [HZ.out.1]; omega)]
          have eY : nt (mvL (shR j i) zr) J = nt zr J := by unfold nt; rw [shR_low (by omega) hj2 (by rw [HZ.out.1]; omega)]
          rw [eX] at cj
          rw [eY] at cJ
          obtain ⟨X, hX⟩ : ∃ X, X = nt zr i := ⟨_, rfl⟩
          obtain ⟨Y, hY⟩ : ∃ Y, Y = nt zr J := ⟨_, rfl⟩
          rw [← hX] at cj
          rw [← hY] at cJ
          have hXn : X < n := by rw [hX]; exact nt_lt HZ.out.2.1 HZ.out.1 (by omega)
          have hYn : Y < n := by rw [hY]; exact nt_lt HZ.out.2.1 HZ.out.1 (by omega)
          have HCL : Hid (c X Y < 0 ↔ lt (nt zr i) (nt zr J) = true) := by
            rw [← hX, ← hY]
            exact HT.out.2 X Y hXn hYn (by rw [hX, hY]; exact HX.out J (by omega) (by omega))
          have HCC : Hid (Calls Try.prog f (.int .i64 (X : Nat) :: .int .i64 (Y : Nat) :: cs).toArray wr.drew fun r W' => r = .returned (.int .i64 (c X Y)) ∧ Below wr.drew.heap.size wr.drew W') :=
            HC.out X Y wr.drew hXn hYn (sgrown_t HW0.out (sgrown_t HGq.out ⟨rfl, rfl, rfl, Nat.le_refl _, fun _ _ _ => rfl⟩))
          have w1 : IntKind.i64.wrap ((j : Int) - 1) = (J : Int) := by rw [wr_sm (by omega)]; omega
          have HXY : Hid (X = nt zr i ∧ Y = nt zr J ∧ j = J + 1) := ⟨hX, hY, hJ⟩
          clear hrow hG hOq hLq eX eY hX hY
          by_cases hc : c X Y < 0
          · have HLL : Hid (lt (nt zr i) (nt zr J) = true) := HCL.out.1 hc
            clear hJ
            go_wp2_with fail
            refine anyT_begin 14 (fun w' => w'.cell? ⟨S, j, none⟩ = some (.int .i64 (X : Nat)) ∧ w'.cell? ⟨S, J, none⟩ = some (.int .i64 (Y : Nat))) 17 #[false, false, false, false, false, false, false, false, false, false, false, false, false, false, false, false, false] (by kernel_rfl) rfl rfl ?_
            refine anyT_put 0 18 ?rv34 #[true, false, false, false, false, false, false, false, false, false, false, false, false, false, false, false, false] rfl rfl rfl (by kernel_rfl) (by kernel_rfl) (by kernel_rfl) (fun _ _ _ h => h) (by decide) ?ry34 (fun _ => ⟨cj, cJ⟩) ?rm34
            case ry34 => first | exact Or.inl ⟨by rfl, by intro w'; go_simp; first | done | rfl⟩
            case rm34 =>
            simp only [Act.put, List.setIfInBounds_toArray, List.set_cons_zero, List.set_cons_succ]
            refine anyT_put 1 19 ?rv35 #[true, true, false, false, false, false, false, false, false, false, false, false, false, false, false, false, false] rfl rfl rfl (by kernel_rfl) (by kernel_rfl) (by kernel_rfl) (fun _ _ _ h => h) (by decide) ?ry35 (fun _ => ⟨cj, cJ⟩) ?rm35
            case ry35 => first | exact Or.inl ⟨by rfl, by intro w'; go_simp; first | done | rfl⟩
            case rm35 =>
            simp only [Act.put, List.setIfInBounds_toArray, List.set_cons_zero, List.set_cons_succ]
            refine anyT_put 2 20 ?rv36 #[true, true, true, false, false, false, false, false, false, false, false, false, false, false, false, false, false] rfl rfl rfl (by kernel_rfl) (by kernel_rfl) (by kernel_rfl) (fun _ _ _ h => h) (by decide) ?ry36 (fun _ => ⟨cj, cJ⟩) ?rm36
            case ry36 => first | exact Or.inl ⟨by rfl, by intro w'; go_simp; first | done | rfl⟩
            case rm36 =>
            simp only [Act.put, List.setIfInBounds_toArray, List.set_cons_zero, List.set_cons_succ]
            refine anyT_put 3 21 ?rv37 #[true, true, true, true, false, false, false, false, false, false, false, false, false, false, false, false, false] rfl rfl rfl (by kernel_rfl) (by kernel_rfl) (by kernel_rfl) (fun _ _ _ h => h) (by decide) ?ry37 (fun _ => ⟨cj, cJ⟩) ?rm37
            case ry37 => first | exact Or.inl ⟨by rfl, by intro w'; go_simp; first | done | rfl⟩
            case rm37 =>
            simp only [Act.put, List.setIfInBounds_toArray, List.set_cons_zero, List.set_cons_succ]
            refine anyT_put 4 22 ?rv38 #[true, true, true, true, true, false, false, false, false, false, false, false, false, false, false, false, false] rfl rfl rfl (by kernel_rfl) (by kernel_rfl) (by kernel_rfl) (fun _ _ _ h => h) (by decide) ?ry38 (fun _ => ⟨cj, cJ⟩) ?rm38
            case ry38 => first | exact Or.inl ⟨by rfl, by intro w'; go_simp; first | done | rfl⟩ | exact Or.inr ⟨by rfl, rfl⟩ | exact Or.inr ⟨by rfl, by rfl⟩
            case rm38 =>
            simp only [Act.put, List.setIfInBounds_toArray, List.set_cons_zero, List.set_cons_succ]
            refine anyT_put 5 23 ?rv39 #[true, true, true, true, true, true, false, false, false, false, false, false, false, false, false, false, false] rfl rfl rfl (by kernel_rfl) (by kernel_rfl) (by kernel_rfl) (fun _ _ _ h => h) (by decide) ?ry39 (fun _ => ⟨cj, cJ⟩) ?rm39
            case ry39 => first | exact Or.inl ⟨by rfl, by intro w'; go_simp; first | done | rfl⟩ | exact Or.inr ⟨by rfl, rfl⟩ | exact Or.inr ⟨by rfl, by rfl⟩
            case rm39 =>
            simp only [Act.put, List.setIfInBounds_toArray, List.set_cons_zero, List.set_cons_succ]
            refine anyT_put 6 24 ?rv40 #[true, true, true, true, true, true, true, false, false, false, false, false, false, false, false, false, false] rfl rfl rfl (by kernel_rfl) (by kernel_rfl) (by kernel_rfl) (fun _ _ _ h => h) (by decide) ?ry40 (fun _ => ⟨cj, cJ⟩) ?rm40
            case ry40 => first | exact Or.inl ⟨by rfl, by intro w'; go_simp; first | done | rfl⟩ | exact Or.inr ⟨by rfl, rfl⟩ | exact Or.inr ⟨by rfl, by rfl⟩
            case rm40 =>
            simp only [Act.put, List.setIfInBounds_toArray, List.set_cons_zero, List.set_cons_succ]
            refine anyT_put 7 25 ?rv41 #[true, true, true, true, true, true, true, true, false, false, false, false, false, false, false, false, false] rfl rfl rfl (by kernel_rfl) (by kernel_rfl) (by kernel_rfl) (fun _ _ _ h => h) (by decide) ?ry41 (fun _ => ⟨cj, cJ⟩) ?rm41
            case ry41 => first | exact Or.inl ⟨by rfl, by intro w'; go_simp; first | done | rfl⟩ | exact Or.inr ⟨by rfl, rfl⟩ | exact Or.inr ⟨by rfl, by rfl⟩
            case rm41 =>
            simp only [Act.put, List.setIfInBounds_toArray, List.set_cons_zero, List.set_cons_succ]
            refine anyT_take 8 26 ?rv42 #[true, true, true, true, true, true, true, true, true, false, false, false, false, false, false, false, false] rfl rfl rfl (by kernel_rfl) (by kernel_rfl) (by kernel_rfl) (fun _ _ _ h => h) (by kernel_rfl) (by decide) (by kernel_rfl) ?ry42 (⟨cj, cJ⟩) ?rm42
            case ry42 => first | exact Or.inl ⟨by rfl, by intro w' hw'; (try dsimp only at hw'); go_simp; first | done | rfl⟩ | exact Or.inr ⟨by rfl, rfl⟩ | exact Or.inr ⟨by rfl, by rfl⟩
            case rm42 =>
            simp only [Act.put, List.setIfInBounds_toArray, List.set_cons_zero, List.set_cons_succ]
            refine anyT_put 9 27 ?rv43 #[true, true, true, true, true, true, true, true, true, true, false, false, false, false, false, false, false] rfl rfl rfl (by kernel_rfl) (by kernel_rfl) (by kernel_rfl) (fun _ _ _ h => h) (by decide) ?ry43 (fun _ => ⟨cj, cJ⟩) ?rm43
            case ry43 => first | exact Or.inl ⟨by rfl, by intro w'; go_simp; first | done | rfl⟩ | exact Or.inr ⟨by rfl, rfl⟩ | exact Or.inr ⟨by rfl, by rfl⟩
            case rm43 =>
            simp only [Act.put, List.setIfInBounds_toArray, List.set_cons_zero, List.set_cons_succ]
            refine anyT_put 10 28 ?rv44 #[true, true, true, true, true, true, true, true, true, true, true, false, false, false, false, false, false] rfl rfl rfl (by kernel_rfl) (by kernel_rfl) (by kernel_rfl) (fun _ _ _ h => h) (by decide) ?ry44 (fun _ => ⟨cj, cJ⟩) ?rm44
            case ry44 => first | exact Or.inl ⟨by rfl, by intro w'; go_simp; first | done | rfl⟩ | exact Or.inr ⟨by rfl, rfl⟩ | exact Or.inr ⟨by rfl, by rfl⟩
            case rm44 =>
            simp only [Act.put, List.setIfInBounds_toArray, List.set_cons_zero, List.set_cons_succ]
            refine anyT_put 11 29 ?rv45 #[true, true, true, true, true, true, true, true, true, true, true, true, false, false, false, false, false] rfl rfl rfl (by kernel_rfl) (by kernel_rfl) (by kernel_rfl) (fun _ _ _ h => h) (by decide) ?ry45 (fun _ => ⟨cj, cJ⟩) ?rm45
            case ry45 => first | exact Or.inl ⟨by rfl, by intro w'; go_simp; first | done | rfl⟩ | exact Or.inr ⟨by rfl, rfl⟩ | exact Or.inr ⟨by rfl, by rfl⟩
            case rm45 =>
            simp only [Act.put, List.setIfInBounds_toArray, List.set_cons_zero, List.set_cons_succ]
            refine anyT_put 12 30 ?rv46 #[true, true, true, true, true, true, true, true, true, true, true, true, true, false, false, false, false] rfl rfl rfl (by kernel_rfl) (by kernel_rfl) (by kernel_rfl) (fun _ _ _ h => h) (by decide) ?ry46 (fun _ => ⟨cj, cJ⟩) ?rm46
            case ry46 => first | exact Or.inl ⟨by rfl, by intro w'; go_simp; first | done | rfl⟩ | exact Or.inr ⟨by rfl, rfl⟩ | exact Or.inr ⟨by rfl, by rfl⟩
            case rm46 =>
            simp only [Act.put, List.setIfInBounds_toArray, List.set_cons_zero, List.set_cons_succ]
            refine anyT_take 13 31 ?rv47 #[true, true, true, true, true, true, true, true, true, true, true, true, true, true, false, false, false] rfl rfl rfl (by kernel_rfl) (by kernel_rfl) (by kernel_rfl) (fun _ _ _ h => h) (by kernel_rfl) (by decide) (by kernel_rfl) ?ry47 (⟨cj, cJ⟩) ?rm47
            case ry47 => first | exact Or.inl ⟨by rfl, by intro w' hw'; (try dsimp only at hw'); go_simp; first | done | rfl⟩ | exact Or.inr ⟨by rfl, rfl⟩ | exact Or.inr ⟨by rfl, by rfl⟩
            case rm47 =>
            simp only [Act.put, List.setIfInBounds_toArray, List.set_cons_zero, List.set_cons_succ]
            refine anyT_one 14 #[true, true, true, true, true, true, true, true, true, true, true, true, true, true, true, false, false] (by kernel_rfl) rfl rfl (fun K hK => ?_)
            go_simp
            go_wp2_with fail
            refine HCC.out.mono ?_
            rintro e v1 ⟨rfl, hB1⟩
            refine hK.out _ _ (fun h => absurd h (by decide)) ?_
            clear hK K
            refine anyT_one 15 #[true, true, true, true, true, true, true, true, true, true, true, true, true, true, true, true, false] (by kernel_rfl) rfl rfl (fun K hK => ?_)
            go_simp
            refine hK.out _ _ (fun h => absurd h (by decide)) ?_
            clear hK K
            refine anyT_one 16 #[true, true, true, true, true, true, true, true, true, true, true, true, true, true, true, true, true] (by kernel_rfl) rfl rfl (fun K hK => ?_)
            go_simp
            refine hK.out _ _ (fun h => absurd h (by decide)) ?_
            clear hK K
            refine anyT_done (by kernel_rfl) ?_
            have row1 : v1.rowIs S 3 n (zc (mvL (shR j i) zr)) := HRq.out.of_block (hB1.block S hSz)
            have HG1 : Hid (w.grownBy v1 (some S)) := sgrown_bel (w := wr) HGq.out ((Below.refl _ wr).drew.trans hB1)
            have cj1 : v1.cell? ⟨S, j, none⟩ = some (.int .i64 (X : Nat)) := (hB1.cell (p := ⟨S, j, none⟩) hSz).trans cj
            have cJ1 : v1.cell? ⟨S, J, none⟩ = some (.int .i64 (Y : Nat)) := (hB1.cell (p := ⟨S, J, none⟩) hSz).trans cJ
            have fj := row1.frozen j
            have fJ := row1.frozen J
            have hLq : (mvL (shR j i) zr).length = n := by rw [mvL_length]; exact HZ.out.1
            have HR2 : Hid (((v1.setCell ⟨S, j, none⟩ (.int .i64 (Y : Nat))).setCell ⟨S, J, none⟩ (.int .i64 (X : Nat))).rowIs S 3 n (zc (mvL (shR J i) zr))) := by
              refine zc_swap2 row1 hLq hjn hJn ?_ ?_ ?_
              · rw [HXY.out.1, shR_at hj2 (by rw [HZ.out.1]; omega)]; exact nt_nth HZ.out.2.1 (by rw [HZ.out.1]; omega)
              · have := HXY.out.2.2
                rw [HXY.out.2.1, shR_low (by omega) hj2 (by rw [HZ.out.1]; omega)]; exact nt_nth HZ.out.2.1 (by rw [HZ.out.1]; omega)
              · have h := shR_step (z := zr) (j := j) (i := i) (by omega) hj2 (by rw [HZ.out.1]; omega)
                rw [show j - 1 = J by have := HXY.out.2.2; omega] at h
                exact h
            have hjJn : j ≠ J := by have := HXY.out.2.2; omega
            clear row1 hB1 cj cJ hLq
            go_wp2_with fail
            refine anyT_begin 14 (fun w' => w'.cell? ⟨S, j, none⟩ = some (.int .i64 (X : Nat)) ∧ w'.cell? ⟨S, J, none⟩ = some (.int .i64 (Y : Nat))) 18 #[false, false, false, false, false, false, false, false, false, false, false, false, false, false, false, false, false, false] (by kernel_rfl) rfl rfl ?_
            refine anyT_put 0 37 ?rv51 #[true, false, false, false, false, false, false, false, false, false, false, false, false, false, false, false, false, false] rfl rfl rfl (by kernel_rfl) (by kernel_rfl) (by kernel_rfl) (fun _ _ _ h => h) (by decide) ?ry51 (fun _ => ⟨cj1, cJ1⟩) ?rm51
            case ry51 => first | exact Or.inl ⟨by rfl, by intro w'; go_simp; first | done | rfl⟩
            case rm51 =>
            simp only [Act.put, List.setIfInBounds_toArray, List.set_cons_zero, List.set_cons_succ]
            refine anyT_put 1 38 ?rv52 #[true, true, false, false, false, false, false, false, false, false, false, false, false, false, false, false, false, false] rfl rfl rfl (by kernel_rfl) (by kernel_rfl) (by kernel_rfl) (fun _ _ _ h => h) (by decide) ?ry52 (fun _ => ⟨cj1, cJ1⟩) ?rm52
            case ry52 => first | exact Or.inl ⟨by rfl, by intro w'; go_simp; first | done | rfl⟩
            case rm52 =>
            simp only [Act.put, List.setIfInBounds_toArray, List.set_cons_zero, List.set_cons_succ]
            refine anyT_put 2 39 ?rv53 #[true, true, true, false, false, false, false, false, false, false, false, false, false, false, false, false, false, false] rfl rfl rfl (by kernel_rfl) (by kernel_rfl) (by kernel_rfl) (fun _ _ _ h => h) (by decide) ?ry53 (fun _ => ⟨cj1, cJ1⟩) ?rm53
            case ry53 => first | exact Or.inl ⟨by rfl, by intro w'; go_simp; first | done | rfl⟩
            case rm53 =>
            simp only [Act.put, List.setIfInBounds_toArray, List.set_cons_zero, List.set_cons_succ]
            refine anyT_put 3 40 ?rv54 #[true, true, true, true, false, false, false, false, false, false, false, false, false, false, false, false, false, false] rfl rfl rfl (by kernel_rfl) (by kernel_rfl) (by kernel_rfl) (fun _ _ _ h => h) (by decide) ?ry54 (fun _ => ⟨cj1, cJ1⟩) ?rm54
            case ry54 => first | exact Or.inl ⟨by rfl, by intro w'; go_simp; first | done | rfl⟩
            case rm54 =>
            simp only [Act.put, List.setIfInBounds_toArray, List.set_cons_zero, List.set_cons_succ]
            refine anyT_put 4 41 ?rv55 #[true, true, true, true, true, false, false, false, false, false, false, false, false, false, false, false, false, false] rfl rfl rfl (by kernel_rfl) (by kernel_rfl) (by kernel_rfl) (fun _ _ _ h => h) (by decide) ?ry55 (fun _ => ⟨cj1, cJ1⟩) ?rm55
            case ry55 => first | exact Or.inl ⟨by rfl, by intro w'; go_simp; first | done | rfl⟩
            case rm55 =>
            simp only [Act.put, List.setIfInBounds_toArray, List.set_cons_zero, List.set_cons_succ]
            refine anyT_put 5 42 ?rv56 #[true, true, true, true, true, true, false, false, false, false, false, false, false, false, false, false, false, false] rfl rfl rfl (by kernel_rfl) (by kernel_rfl) (by kernel_rfl) (fun _ _ _ h => h) (by decide) ?ry56 (fun _ => ⟨cj1, cJ1⟩) ?rm56
            case ry56 => first | exact Or.inl ⟨by rfl, by intro w'; go_simp; first | done | rfl⟩
            case rm56 =>
            simp only [Act.put, List.setIfInBounds_toArray, List.set_cons_zero, List.set_cons_succ]
            refine anyT_put 6 43 ?rv57 #[true, true, true, true, true, true, true, false, false, false, false, false, false, false, false, false, false, false] rfl rfl rfl (by kernel_rfl) (by kernel_rfl) (by kernel_rfl) (fun _ _ _ h => h) (by decide) ?ry57 (fun _ => ⟨cj1, cJ1⟩) ?rm57
            case ry57 => first | exact Or.inl ⟨by rfl, by intro w'; go_simp; first | done | rfl⟩
            case rm57 =>
            simp only [Act.put, List.setIfInBounds_toArray, List.set_cons_zero, List.set_cons_succ]
            refine anyT_put 7 44 ?rv58 #[true, true, true, true, true, true, true, true, false, false, false, false, false, false, false, false, false, false] rfl rfl rfl (by kernel_rfl) (by kernel_rfl) (by kernel_rfl) (fun _ _ _ h => h) (by decide) ?ry58 (fun _ => ⟨cj1, cJ1⟩) ?rm58
            case ry58 => first | exact Or.inl ⟨by rfl, by intro w'; go_simp; first | done | rfl⟩
            case rm58 =>
            simp only [Act.put, List.setIfInBounds_toArray, List.set_cons_zero, List.set_cons_succ]
            refine anyT_put 8 45 ?rv59 #[true, true, true, true, true, true, true, true, true, false, false, false, false, false, false, false, false, false] rfl rfl rfl (by kernel_rfl) (by kernel_rfl) (by kernel_rfl) (fun _ _ _ h => h) (by decide) ?ry59 (fun _ => ⟨cj1, cJ1⟩) ?rm59
            case ry59 => first | exact Or.inl ⟨by rfl, by intro w'; go_simp; first | done | rfl⟩
            case rm59 =>
            simp only [Act.put, List.setIfInBounds_toArray, List.set_cons_zero, List.set_cons_succ]
            refine anyT_take 9 46 ?rv60 #[true, true, true, true, true, true, true, true, true, true, false, false, false, false, false, false, false, false] rfl rfl rfl (by kernel_rfl) (by kernel_rfl) (by kernel_rfl) (fun _ _ _ h => h) (by kernel_rfl) (by decide) (by kernel_rfl) ?ry60 (⟨cj1, cJ1⟩) ?rm60
            case ry60 => first | exact Or.inl ⟨by rfl, by intro w' hw'; (try dsimp only at hw'); go_simp; first | done | rfl⟩
            case rm60 =>
            simp only [Act.put, List.setIfInBounds_toArray, List.set_cons_zero, List.set_cons_succ]
            refine anyT_put 10 47 ?rv61 #[true, true, true, true, true, true, true, true, true, true, true, false, false, false, false, false, false, false] rfl rfl rfl (by kernel_rfl) (by kernel_rfl) (by kernel_rfl) (fun _ _ _ h => h) (by decide) ?ry61 (fun _ => ⟨cj1, cJ1⟩) ?rm61
            case ry61 => first | exact Or.inl ⟨by rfl, by intro w'; go_simp; first | done | rfl⟩
            case rm61 =>
            simp only [Act.put, List.setIfInBounds_toArray, List.set_cons_zero, List.set_cons_succ]
            refine anyT_put 11 48 ?rv62 #[true, true, true, true, true, true, true, true, true, true, true, true, false, false, false, false, false, false] rfl rfl rfl (by kernel_rfl) (by kernel_rfl) (by kernel_rfl) (fun _ _ _ h => h) (by decide) ?ry62 (fun _ => ⟨cj1, cJ1⟩) ?rm62
            case ry62 => first | exact Or.inl ⟨by rfl, by intro w'; go_simp; first | done | rfl⟩
            case rm62 =>
            simp only [Act.put, List.setIfInBounds_toArray, List.set_cons_zero, List.set_cons_succ]
            refine anyT_put 12 49 ?rv63 #[true, true, true, true, true, true, true, true, true, true, true, true, true, false, false, false, false, false] rfl rfl rfl (by kernel_rfl) (by kernel_rfl) (by kernel_rfl) (fun _ _ _ h => h) (by decide) ?ry63 (fun _ => ⟨cj1, cJ1⟩) ?rm63
            case ry63 => first | exact Or.inl ⟨by rfl, by intro w'; go_simp; first | done | rfl⟩
            case rm63 =>
            simp only [Act.put, List.setIfInBounds_toArray, List.set_cons_zero, List.set_cons_succ]
            refine anyT_take 13 50 ?rv64 #[true, true, true, true, true, true, true, true, true, true, true, true, true, true, false, false, false, false] rfl rfl rfl (by kernel_rfl) (by kernel_rfl) (by kernel_rfl) (fun _ _ _ h => h) (by kernel_rfl) (by decide) (by kernel_rfl) ?ry64 (⟨cj1, cJ1⟩) ?rm64
            case ry64 => first | exact Or.inl ⟨by rfl, by intro w' hw'; (try dsimp only at hw'); go_simp; first | done | rfl⟩
            case rm64 =>
            simp only [Act.put, List.setIfInBounds_toArray, List.set_cons_zero, List.set_cons_succ]
            refine anyT_one 14 #[true, true, true, true, true, true, true, true, true, true, true, true, true, true, true, false, false, false] (by kernel_rfl) rfl rfl (fun K hK => ?_)
            go_simp
            refine hK.out _ _ (fun h => absurd h (by decide)) ?_
            clear hK K
            refine anyT_one 15 #[true, true, true, true, true, true, true, true, true, true, true, true, true, true, true, true, false, false] (by kernel_rfl) rfl rfl (fun K hK => ?_)
            go_simp
            refine hK.out _ _ (fun h => absurd h (by decide)) ?_
            clear hK K
            refine anyT_one 16 #[true, true, true, true, true, true, true, true, true, true, true, true, true, true, true, true, true, false] (by kernel_rfl) rfl rfl (fun K hK => ?_)
            go_simp
            refine hK.out _ _ (fun h => absurd h (by decide)) ?_
            clear hK K
            refine anyT_one 17 #[true, true, true, true, true, true, true, true, true, true, true, true, true, true, true, true, true, true] (by kernel_rfl) rfl rfl (fun K hK => ?_)
            go_simp
            refine hK.out _ _ (fun h => absurd h (by decide)) ?_
            clear hK K
            refine anyT_done (by kernel_rfl) ?_
            go_wp2_with fail
            have hjJ := HXY.out.2.2
            exact ⟨⟨J, by omega, by omega, by first | rfl | (congr 1; omega), HR2.out, sgrown_set2 HG1.out _ _ _ _, fun k h1 h2 => by
              by_cases e : k = J
              · rw [e]; exact HLL.out
              · exact HLt.out k (by omega) h2⟩, by simp [intOf]; omega⟩
          · have HLL : Hid (lt (nt zr J) (nt zr i) = true) := (tot_not HT.out.1 HZ.out.2.1 HZ.out.1 (by omega) (by omega) (by omega)).1 (by
              cases q : lt (nt zr i) (nt zr J) with
              | false => rfl
              | true => exact absurd (HCL.out.2 q) hc)
            clear hJ
            go_wp2_with fail
            refine anyT_begin 14 (fun w' => w'.cell? ⟨S, j, none⟩ = some (.int .i64 (X : Nat)) ∧ w'.cell? ⟨S, J, none⟩ = some (.int .i64 (Y : Nat))) 17 #[false, false, false, false, false, false, false, false, false, false, false, false, false, false, false, false, false] (by kernel_rfl) rfl rfl ?_
            refine anyT_put 0 18 ?rv69 #[true, false, false, false, false, false, false, false, false, false, false, false, false, false, false, false, false] rfl rfl rfl (by kernel_rfl) (by kernel_rfl) (by kernel_rfl) (fun _ _ _ h => h) (by decide) ?ry69 (fun _ => ⟨cj, cJ⟩) ?rm69
            case ry69 => first | exact Or.inl ⟨by rfl, by intro w'; go_simp; first | done | rfl⟩
            case rm69 =>
            simp only [Act.put, List.setIfInBounds_toArray, List.set_cons_zero, List.set_cons_succ]
            refine anyT_put 1 19 ?rv70 #[true, true, false, false, false, false, false, false, false, false, false, false, false, false, false, false, false] rfl rfl rfl (by kernel_rfl) (by kernel_rfl) (by kernel_rfl) (fun _ _ _ h => h) (by decide) ?ry70 (fun _ => ⟨cj, cJ⟩) ?rm70
            case ry70 => first | exact Or.inl ⟨by rfl, by intro w'; go_simp; first | done | rfl⟩
            case rm70 =>
            simp only [Act.put, List.setIfInBounds_toArray, List.set_cons_zero, List.set_cons_succ]
            refine anyT_put 2 20 ?rv71 #[true, true, true, false, false, false, false, false, false, false, false, false, false, false, false, false, false] rfl rfl rfl (by kernel_rfl) (by kernel_rfl) (by kernel_rfl) (fun _ _ _ h => h) (by decide) ?ry71 (fun _ => ⟨cj, cJ⟩) ?rm71
            case ry71 => first | exact Or.inl ⟨by rfl, by intro w'; go_simp; first | done | rfl⟩
            case rm71 =>
            simp only [Act.put, List.setIfInBounds_toArray, List.set_cons_zero, List.set_cons_succ]
            refine anyT_put 3 21 ?rv72 #[true, true, true, true, false, false, false, false, false, false, false, false, false, false, false, false, false] rfl rfl rfl (by kernel_rfl) (by kernel_rfl) (by kernel_rfl) (fun _ _ _ h => h) (by decide) ?ry72 (fun _ => ⟨cj, cJ⟩) ?rm72
            case ry72 => first | exact Or.inl ⟨by rfl, by intro w'; go_simp; first | done | rfl⟩
            case rm72 =>
            simp only [Act.put, List.setIfInBounds_toArray, List.set_cons_zero, List.set_cons_succ]
            refine anyT_put 4 22 ?rv73 #[true, true, true, true, true, false, false, false, false, false, false, false, false, false, false, false, false] rfl rfl rfl (by kernel_rfl) (by kernel_rfl) (by kernel_rfl) (fun _ _ _ h => h) (by decide) ?ry73 (fun _ => ⟨cj, cJ⟩) ?rm73
            case ry73 => first | exact Or.inl ⟨by rfl, by intro w'; go_simp; first | done | rfl⟩ | exact Or.inr ⟨by rfl, rfl⟩ | exact Or.inr ⟨by rfl, by rfl⟩
            case rm73 =>
            simp only [Act.put, List.setIfInBounds_toArray, List.set_cons_zero, List.set_cons_succ]
            refine anyT_put 5 23 ?rv74 #[true, true, true, true, true, true, false, false, false, false, false, false, false, false, false, false, false] rfl rfl rfl (by kernel_rfl) (by kernel_rfl) (by kernel_rfl) (fun _ _ _ h => h) (by decide) ?ry74 (fun _ => ⟨cj, cJ⟩) ?rm74
            case ry74 => first | exact Or.inl ⟨by rfl, by intro w'; go_simp; first | done | rfl⟩ | exact Or.inr ⟨by rfl, rfl⟩ | exact Or.inr ⟨by rfl, by rfl⟩
            case rm74 =>
            simp only [Act.put, List.setIfInBounds_toArray, List.set_cons_zero, List.set_cons_succ]
            refine anyT_put 6 24 ?rv75 #[true, true, true, true, true, true, true, false, false, false, false, false, false, false, false, false, false] rfl rfl rfl (by kernel_rfl) (by kernel_rfl) (by kernel_rfl) (fun _ _ _ h => h) (by decide) ?ry75 (fun _ => ⟨cj, cJ⟩) ?rm75
            case ry75 => first | exact Or.inl ⟨by rfl, by intro w'; go_simp; first | done | rfl⟩ | exact Or.inr ⟨by rfl, rfl⟩ | exact Or.inr ⟨by rfl, by rfl⟩
            case rm75 =>
            simp only [Act.put, List.setIfInBounds_toArray, List.set_cons_zero, List.set_cons_succ]
            refine anyT_put 7 25 ?rv76 #[true, true, true, true, true, true, true, true, false, false, false, false, false, false, false, false, false] rfl rfl rfl (by kernel_rfl) (by kernel_rfl) (by kernel_rfl) (fun _ _ _ h => h) (by decide) ?ry76 (fun _ => ⟨cj, cJ⟩) ?rm76
            case ry76 => first | exact Or.inl ⟨by rfl, by intro w'; go_simp; first | done | rfl⟩ | exact Or.inr ⟨by rfl, rfl⟩ | exact Or.inr ⟨by rfl, by rfl⟩
            case rm76 =>
            simp only [Act.put, List.setIfInBounds_toArray, List.set_cons_zero, List.set_cons_succ]
            refine anyT_take 8 26 ?rv77 #[true, true, true, true, true, true, true, true, true, false, false, false, false, false, false, false, false] rfl rfl rfl (by kernel_rfl) (by kernel_rfl) (by kernel_rfl) (fun _ _ _ h => h) (by kernel_rfl) (by decide) (by kernel_rfl) ?ry77 (⟨cj, cJ⟩) ?rm77
            case ry77 => first | exact Or.inl ⟨by rfl, by intro w' hw'; (try dsimp only at hw'); go_simp; first | done | rfl⟩ | exact Or.inr ⟨by rfl, rfl⟩ | exact Or.inr ⟨by rfl, by rfl⟩
            case rm77 =>
            simp only [Act.put, List.setIfInBounds_toArray, List.set_cons_zero, List.set_cons_succ]
            refine anyT_put 9 27 ?rv78 #[true, true, true, true, true, true, true, true, true, true, false, false, false, false, false, false, false] rfl rfl rfl (by kernel_rfl) (by kernel_rfl) (by kernel_rfl) (fun _ _ _ h => h) (by decide) ?ry78 (fun _ => ⟨cj, cJ⟩) ?rm78
            case ry78 => first | exact Or.inl ⟨by rfl, by intro w'; go_simp; first | done | rfl⟩ | exact Or.inr ⟨by rfl, rfl⟩ | exact Or.inr ⟨by rfl, by rfl⟩
            case rm78 =>
            simp only [Act.put, List.setIfInBounds_toArray, List.set_cons_zero, List.set_cons_succ]
            refine anyT_put 10 28 ?rv79 #[true, true, true, true, true, true, true, true, true, true, true, false, false, false, false, false, false] rfl rfl rfl (by kernel_rfl) (by kernel_rfl) (by kernel_rfl) (fun _ _ _ h => h) (by decide) ?ry79 (fun _ => ⟨cj, cJ⟩) ?rm79
            case ry79 => first | exact Or.inl ⟨by rfl, by intro w'; go_simp; first | done | rfl⟩ | exact Or.inr ⟨by rfl, rfl⟩ | exact Or.inr ⟨by rfl, by rfl⟩
            case rm79 =>
            simp only [Act.put, List.setIfInBounds_toArray, List.set_cons_zero, List.set_cons_succ]
            refine anyT_put 11 29 ?rv80 #[true, true, true, true, true, true, true, true, true, true, true, true, false, false, false, false, false] rfl rfl rfl (by kernel_rfl) (by kernel_rfl) (by kernel_rfl) (fun _ _ _ h => h) (by decide) ?ry80 (fun _ => ⟨cj, cJ⟩) ?rm80
            case ry80 => first | exact Or.inl ⟨by rfl, by intro w'; go_simp; first | done | rfl⟩ | exact Or.inr ⟨by rfl, rfl⟩ | exact Or.inr ⟨by rfl, by rfl⟩
            case rm80 =>
            simp only [Act.put, List.setIfInBounds_toArray, List.set_cons_zero, List.set_cons_succ]
            refine anyT_put 12 30 ?rv81 #[true, true, true, true, true, true, true, true, true, true, true, true, true, false, false, false, false] rfl rfl rfl (by kernel_rfl) (by kernel_rfl) (by kernel_rfl) (fun _ _ _ h => h) (by decide) ?ry81 (fun _ => ⟨cj, cJ⟩) ?rm81
            case ry81 => first | exact Or.inl ⟨by rfl, by intro w'; go_simp; first | done | rfl⟩ | exact Or.inr ⟨by rfl, rfl⟩ | exact Or.inr ⟨by rfl, by rfl⟩
            case rm81 =>
            simp only [Act.put, List.setIfInBounds_toArray, List.set_cons_zero, List.set_cons_succ]
            refine anyT_take 13 31 ?rv82 #[true, true, true, true, true, true, true, true, true, true, true, true, true, true, false, false, false] rfl rfl rfl (by kernel_rfl) (by kernel_rfl) (by kernel_rfl) (fun _ _ _ h => h) (by kernel_rfl) (by decide) (by kernel_rfl) ?ry82 (⟨cj, cJ⟩) ?rm82
            case ry82 => first | exact Or.inl ⟨by rfl, by intro w' hw'; (try dsimp only at hw'); go_simp; first | done | rfl⟩ | exact Or.inr ⟨by rfl, rfl⟩ | exact Or.inr ⟨by rfl, by rfl⟩
            case rm82 =>
            simp only [Act.put, List.setIfInBounds_toArray, List.set_cons_zero, List.set_cons_succ]
            refine anyT_one 14 #[true, true, true, true, true, true, true, true, true, true, true, true, true, true, true, false, false] (by kernel_rfl) rfl rfl (fun K hK => ?_)
            go_simp
            go_wp2_with fail
            refine HCC.out.mono ?_
            rintro e v1 ⟨rfl, hB1⟩
            refine hK.out _ _ (fun h => absurd h (by decide)) ?_
            clear hK K
            refine anyT_one 15 #[true, true, true, true, true, true, true, true, true, true, true, true, true, true, true, true, false] (by kernel_rfl) rfl rfl (fun K hK => ?_)
            go_simp
            refine hK.out _ _ (fun h => absurd h (by decide)) ?_
            clear hK K
            refine anyT_one 16 #[true, true, true, true, true, true, true, true, true, true, true, true, true, true, true, true, true] (by kernel_rfl) rfl rfl (fun K hK => ?_)
            go_simp
            refine hK.out _ _ (fun h => absurd h (by decide)) ?_
            clear hK K
            refine anyT_done (by kernel_rfl) ?_
            have HR1 : Hid (v1.rowIs S 3 n (zc (mvL (shR j i) zr))) := HRq.out.of_block (hB1.block S hSz)
            have HG1 : Hid (w.grownBy v1 (some S)) := sgrown_bel (w := wr) HGq.out ((Below.refl _ wr).drew.trans hB1)
            clear hB1 cj cJ
            go_wp2_with fail
            have hjJ := HXY.out.2.2
            refine ⟨⟨i + 1, mvL (shR j i) zr, by omega, by omega, by go_num, HR1.out, HG1.out, ?_, ?_⟩, by simp [intOf]; omega⟩
            · rw [Nat.min_eq_left (by omega)]
              exact (HZ.out.2.2.1.wide (Nat.le_refl _) (by omega)).trans HMq.out (by have := HL.out.1; omega)
            · exact ris_shR HT.out.1 HZ.out.2.1 HZ.out.1 hj1 hj2 (by omega) HZ.out.2.2.2 HLt.out (.inr (by rw [show j - 1 = J by omega]; exact HLL.out))
        · obtain rfl : j = a := by omega
          have HR1 : Hid (wr.rowIs S 3 n (zc (mvL (shR j i) zr))) := hrow
          clear hrow hG hOq hLq
          go_wp2_with fail
          refine anyT_begin 14 (fun w' => True) 17 #[false, false, false, false, false, false, false, false, false, false, false, false, false, false, false, false, false] (by kernel_rfl) rfl rfl ?_
          refine anyT_put 0 18 ?rv86 #[true, false, false, false, false, false, false, false, false, false, false, false, false, false, false, false, false] rfl rfl rfl (by kernel_rfl) (by kernel_rfl) (by kernel_rfl) (fun _ _ _ h => h) (by decide) ?ry86 (fun _ => trivial) ?rm86
          case ry86 => first | exact Or.inl ⟨by rfl, by intro w'; go_simp; first | done | rfl⟩
          case rm86 =>
          simp only [Act.put, List.setIfInBounds_toArray, List.set_cons_zero, List.set_cons_succ]
          refine anyT_put 1 19 ?rv87 #[true, true, false, false, false, false, false, false, false, false, false, false, false, false, false, false, false] rfl rfl rfl (by kernel_rfl) (by kernel_rfl) (by kernel_rfl) (fun _ _ _ h => h) (by decide) ?ry87 (fun _ => trivial) ?rm87
          case ry87 => first | exact Or.inl ⟨by rfl, by intro w'; go_simp; first | done | rfl⟩
          case rm87 =>
          simp only [Act.put, List.setIfInBounds_toArray, List.set_cons_zero, List.set_cons_succ]
          refine anyT_put 2 20 ?rv88 #[true, true, true, false, false, false, false, false, false, false, false, false, false, false, false, false, false] rfl rfl rfl (by kernel_rfl) (by kernel_rfl) (by kernel_rfl) (fun _ _ _ h => h) (by decide) ?ry88 (fun _ => trivial) ?rm88
          case ry88 => first | exact Or.inl ⟨by rfl, by intro w'; go_simp; first | done | rfl⟩
          case rm88 =>
          simp only [Act.put, List.setIfInBounds_toArray, List.set_cons_zero, List.set_cons_succ]
          refine anyT_put 3 21 ?rv89 #[true, true, true, true, false, false, false, false, false, false, false, false, false, false, false, false, false] rfl rfl rfl (by kernel_rfl) (by kernel_rfl) (by kernel_rfl) (fun _ _ _ h => h) (by decide) ?ry89 (fun _ => trivial) ?rm89
          case ry89 => first | exact Or.inl ⟨by rfl, by intro w'; go_simp; first | done | rfl⟩
          case rm89 =>
          simp only [Act.put, List.setIfInBounds_toArray, List.set_cons_zero, List.set_cons_succ]
          refine anyT_put 4 22 ?rv90 #[true, true, true, true, true, false, false, false, false, false, false, false, false, false, false, false, false] rfl rfl rfl (by kernel_rfl) (by kernel_rfl) (by kernel_rfl) (fun _ _ _ h => h) (by decide) ?ry90 (fun _ => trivial) ?rm90
          case ry90 => first | exact Or.inl ⟨by rfl, by intro w'; go_simp; first | done | rfl⟩ | exact Or.inr ⟨by rfl, rfl⟩ | exact Or.inr ⟨by rfl, by rfl⟩
          case rm90 =>
          simp only [Act.put, List.setIfInBounds_toArray, List.set_cons_zero, List.set_cons_succ]
          refine anyT_put 5 23 ?rv91 #[true, true, true, true, true, true, false, false, false, false, false, false, false, false, false, false, false] rfl rfl rfl (by kernel_rfl) (by kernel_rfl) (by kernel_rfl) (fun _ _ _ h => h) (by decide) ?ry91 (fun _ => trivial) ?rm91
          case ry91 => first | exact Or.inl ⟨by rfl, by intro w'; go_simp; first | done | rfl⟩ | exact Or.inr ⟨by rfl, rfl⟩ | exact Or.inr ⟨by rfl, by rfl⟩
          case rm91 =>
          simp only [Act.put, List.setIfInBounds_toArray, List.set_cons_zero, List.set_cons_succ]
          refine anyT_put 6 24 ?rv92 #[true, true, true, true, true, true, true, false, false, false, false, false, false, false, false, false, false] rfl rfl rfl (by kernel_rfl) (by kernel_rfl) (by kernel_rfl) (fun _ _ _ h => h) (by decide) ?ry92 (fun _ => trivial) ?rm92
          case ry92 => first | exact Or.inl ⟨by rfl, by intro w'; go_simp; first | done | rfl⟩ | exact Or.inr ⟨by rfl, rfl⟩ | exact Or.inr ⟨by rfl, by rfl⟩
          case rm92 =>
          simp only [Act.put, List.setIfInBounds_toArray, List.set_cons_zero, List.set_cons_succ]
          refine anyT_put 7 25 ?rv93 #[true, true, true, true, true, true, true, true, false, false, false, false, false, false, false, false, false] rfl rfl rfl (by kernel_rfl) (by kernel_rfl) (by kernel_rfl) (fun _ _ _ h => h) (by decide) ?ry93 (fun _ => trivial) ?rm93
          case ry93 => first | exact Or.inl ⟨by rfl, by intro w'; go_simp; first | done | rfl⟩ | exact Or.inr ⟨by rfl, rfl⟩ | exact Or.inr ⟨by rfl, by rfl⟩
          case rm93 =>
          simp only [Act.put, List.setIfInBounds_toArray, List.set_cons_zero, List.set_cons_succ]
          refine anyT_take 8 26 ?rv94 #[true, true, true, true, true, true, true, true, true, false, false, false, false, false, false, false, false] rfl rfl rfl (by kernel_rfl) (by kernel_rfl) (by kernel_rfl) (fun _ _ _ h => h) (by kernel_rfl) (by decide) (by kernel_rfl) ?ry94 (trivial) ?rm94
          case ry94 => first | exact Or.inl ⟨by rfl, by intro w' hw'; (try dsimp only at hw'); go_simp; first | done | rfl⟩ | exact Or.inr ⟨by rfl, rfl⟩ | exact Or.inr ⟨by rfl, by rfl⟩
          case rm94 =>
          simp only [Act.put, List.setIfInBounds_toArray, List.set_cons_zero, List.set_cons_succ]
          refine anyT_put 9 27 ?rv95 #[true, true, true, true, true, true, true, true, true, true, false, false, false, false, false, false, false] rfl rfl rfl (by kernel_rfl) (by kernel_rfl) (by kernel_rfl) (fun _ _ _ h => h) (by decide) ?ry95 (fun _ => trivial) ?rm95
          case ry95 => first | exact Or.inl ⟨by rfl, by intro w'; go_simp; first | done | rfl⟩ | exact Or.inr ⟨by rfl, rfl⟩ | exact Or.inr ⟨by rfl, by rfl⟩
          case rm95 =>
          simp only [Act.put, List.setIfInBounds_toArray, List.set_cons_zero, List.set_cons_succ]
          refine anyT_put 10 28 ?rv96 #[true, true, true, true, true, true, true, true, true, true, true, false, false, false, false, false, false] rfl rfl rfl (by kernel_rfl) (by kernel_rfl) (by kernel_rfl) (fun _ _ _ h => h) (by decide) ?ry96 (fun _ => trivial) ?rm96
          case ry96 => first | exact Or.inl ⟨by rfl, by intro w'; go_simp; first | done | rfl⟩ | exact Or.inr ⟨by rfl, rfl⟩ | exact Or.inr ⟨by rfl, by rfl⟩
          case rm96 =>
          simp only [Act.put, List.setIfInBounds_toArray, List.set_cons_zero, List.set_cons_succ]
          refine anyT_put 11 29 ?rv97 #[true, true, true, true, true, true, true, true, true, true, true, true, false, false, false, false, false] rfl rfl rfl (by kernel_rfl) (by kernel_rfl) (by kernel_rfl) (fun _ _ _ h => h) (by decide) ?ry97 (fun _ => trivial) ?rm97
          case ry97 => first | exact Or.inl ⟨by rfl, by intro w'; go_simp; first | done | rfl⟩ | exact Or.inr ⟨by rfl, rfl⟩ | exact Or.inr ⟨by rfl, by rfl⟩
          case rm97 =>
          simp only [Act.put, List.setIfInBounds_toArray, List.set_cons_zero, List.set_cons_succ]
          refine anyT_put 12 30 ?rv98 #[true, true, true, true, true, true, true, true, true, true, true, true, true, false, false, false, false] rfl rfl rfl (by kernel_rfl) (by kernel_rfl) (by kernel_rfl) (fun _ _ _ h => h) (by decide) ?ry98 (fun _ => trivial) ?rm98
          case ry98 => first | exact Or.inl ⟨by rfl, by intro w'; go_simp; first | done | rfl⟩ | exact Or.inr ⟨by rfl, rfl⟩ | exact Or.inr ⟨by rfl, by rfl⟩
          case rm98 =>
          simp only [Act.put, List.setIfInBounds_toArray, List.set_cons_zero, List.set_cons_succ]
          refine anyT_take 13 31 ?rv99 #[true, true, true, true, true, true, true, true, true, true, true, true, true, true, false, false, false] rfl rfl rfl (by kernel_rfl) (by kernel_rfl) (by kernel_rfl) (fun _ _ _ h => h) (by kernel_rfl) (by decide) (by kernel_rfl) ?ry99 (trivial) ?rm99
          case ry99 => first | exact Or.inl ⟨by rfl, by intro w' hw'; (try dsimp only at hw'); go_simp; first | done | rfl⟩ | exact Or.inr ⟨by rfl, rfl⟩ | exact Or.inr ⟨by rfl, by rfl⟩
          case rm99 =>
          simp only [Act.put, List.setIfInBounds_toArray, List.set_cons_zero, List.set_cons_succ]
          refine anyT_one 14 #[true, true, true, true, true, true, true, true, true, true, true, true, true, true, true, false, false] (by kernel_rfl) rfl rfl (fun K hK => ?_)
          go_simp
          refine hK.out _ _ (fun h => absurd h (by decide)) ?_
          clear hK K
          refine anyT_one 15 #[true, true, true, true, true, true, true, true, true, true, true, true, true, true, true, true, false] (by kernel_rfl) rfl rfl (fun K hK => ?_)
          go_simp
          refine hK.out _ _ (fun h => absurd h (by decide)) ?_
          clear hK K
          refine anyT_one 16 #[true, true, true, true, true, true, true, true, true, true, true, true, true, true, true, true, true] (by kernel_rfl) rfl rfl (fun K hK => ?_)
          go_simp
          refine hK.out _ _ (fun h => absurd h (by decide)) ?_
          clear hK K
          refine anyT_done (by kernel_rfl) ?_
          go_wp2_with fail
          refine ⟨⟨i + 1, mvL (shR j i) zr, by omega, by omega, by go_num, HR1.out, sgrown_bel HGq.out (Below.refl _ wr).drew, ?_, ?_⟩, by simp [intOf]; omega⟩
          · rw [Nat.min_eq_left (by omega)]
            exact (HZ.out.2.2.1.wide (Nat.le_refl _) (by omega)).trans HMq.out (by have := HL.out.1; omega)
          · exact ris_shR HT.out.1 HZ.out.2.1 HZ.out.1 hj1 hj2 (by omega) HZ.out.2.2.2 HLt.out (.inl rfl)
    · have HRi : Hid (wr.rowIs S 3 n (zc zr)) := hrow
      have HGi : Hid (w.grownBy wr (some S)) := hG
      have HM : Hid (Mv a b z zr) := by rw [Nat.min_eq_right (by omega)] at hM; exact hM
      have HRs : Hid (Ris lt zr a b) := hr.part (Nat.le_refl _) (by omega)
      clear hrow hG hM hr
      go_wp2_with fail
      go_end0
      exact ⟨⟨_, rfl⟩, zr, HRi.out, HGi.out, HM.out, HRs.out⟩
end Go.Proofs.Ytmbgomljofngnab
