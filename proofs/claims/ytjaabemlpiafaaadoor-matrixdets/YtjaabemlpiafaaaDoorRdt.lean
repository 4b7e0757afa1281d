/-
  The reference's determinants.
-/
import Derived.Test.YtjaabemlpiafaaaDoorRdm
import Derived.Test.YtjaabemlpiafaaaDoorRmt
namespace Go.Proofs.YtjaabemlpiafaaaDoor
open Go.RowKit
set_option linter.unusedVariables false

/-- A row of truths. -/
def bol (U : Nat → Bool) (j : Nat) : Value := .bool (U j)
theorem bol_add {wr : World} {B n : Nat} {t : TypeId} {U : Nat → Bool} (h : wr.rowIs B t n (bol U)) (k : Nat) : (wr.setCell ⟨B, k, none⟩ (.bool true)).rowIs B t n (bol (add14 U k)) :=
  (h.set k _).congr fun j hj => by
    unfold bol add14
    by_cases e : j = k
    · rw [if_pos e, if_pos e]
    · rw [if_neg e, if_neg e]
theorem bol_back {wr : World} {B n : Nat} {t : TypeId} {U : Nat → Bool} {k : Nat} (h : wr.rowIs B t n (bol (add14 U k))) (hU : U k = false) : (wr.setCell ⟨B, k, none⟩ (.bool false)).rowIs B t n (bol U) :=
  (h.set k _).congr fun j hj => by
    unfold bol add14
    by_cases e : j = k
    · rw [if_pos e, e, hU]
    · rw [if_neg e, if_neg e]
theorem sg_next (k : Nat) : wrap64 (-sg k) = sg (k + 1) := by
  have : k % 2 = 0 ∨ k % 2 = 1 := by omega
  rcases this with h | h
  · rw [sg_even h, sg_odd (show (k + 1) % 2 = 1 by omega)]; exact w_small (by decide) (by decide)
  · rw [sg_odd h, sg_even (show (k + 1) % 2 = 0 by omega)]; exact w_small (by decide) (by decide)
/-- One column's share. -/
def tm14 (n : Nat) (A : Mx) (U : Nat → Bool) (j : Nat) : Int := if out14 U j = true then sg (cnt (out14 U) j) * A (cnt U n) j * dU n A (add14 U j) else 0
/-- The contract of Determinant where so many columns are free. -/
def CDm (n N : Nat) (da : Option Addr) (dc : Nat) (dz : List Int) (m : Nat) : Prop := ∀ (U : Nat → Bool) (B : Nat) (w : World), cnt (out14 U) n = m → w.rowIs B 4 n (bol U) → IsInts B w da dz →
  Calls Tryd.prog 23 #[.int .i64 (n : Nat), .slice da N dc, .slice (some ⟨B, 0, none⟩) n n] w fun e w' => e = .returned (.int .i64 (wrap64 (dU n (rdg n dz) U))) ∧ w'.rowIs B 4 n (bol U) ∧ Below B w w'
set_option maxRecDepth 100000 in
set_option maxHeartbeats 1000000 in
theorem determ_all (n : Nat) (hn : n ≤ 6) (N : Nat) (hN : N = n * n) (da : Option Addr) (dc : Nat) (dz : List Int) (hl : dz.length = N) (m : Nat) : CDm n N da dc dz m := by
  induction m using Nat.strongRecOn with
  | _ m ih =>
    intro U B w hm hrow hI
    have HN : Hid (N = n * n ∧ dz.length = N) := ⟨hN, hl⟩
    have N36 : N ≤ 36 := by have : n * n ≤ 6 * 6 := Nat.mul_le_mul hn hn; omega
    have HR : Hid (w.rowIs B 4 n (bol U)) := hrow
    have HI : Hid (IsInts B w da dz) := hI
    have HM : Hid (cnt (out14 U) n = m) := hm
    have HIH : Hid (∀ k, k < m → CDm n N da dc dz k) := ih
    clear hN hl hrow hI hm ih
    go_enter Tryd.func23, Tryd.ntmps23
    go_wp2_with fail
    go_loopw [7, 8] (fun r j wr => wr = w ∧ ∃ t : Nat, t ≤ n ∧ j = .int .i64 t ∧ r = .int .i64 (cnt U t : Nat)) (fun _ j _ => n - (intOf j).toNat)
    case atStart => exact ⟨rfl, 0, Nat.zero_le _, rfl, rfl⟩
    case round =>
      obtain ⟨hwr, t, ht, rfl, rfl⟩ := hrel
      obtain rfl := hwr.symm
      clear hwr
      by_cases hlt : t < n
      · have c0 := HR.out.cell hlt
        unfold bol at c0
        obtain ⟨q, hq⟩ : ∃ q, q = cnt U t := ⟨_, rfl⟩
        have hq6 : q ≤ 6 := by have := cnt_le U t; omega
        cases hU : U t with
        | true =>
          rw [hU] at c0
          have HC : Hid (cnt U (t + 1) = q + 1) := by show _ = _; rw [cnt, if_pos hU, hq]
          rw [← hq]
          clear hq hU
          go_wp2_with fail
          exact ⟨⟨by first | trivial | rfl, t + 1, by omega, by go_num, by rw [HC.out]; go_num⟩, by simp [intOf]; omega⟩
        | false =>
          rw [hU] at c0
          have HC : Hid (cnt U (t + 1) = q) := by show _ = _; rw [cnt, if_neg (by rw [hU]; decide), hq]; rfl
          rw [← hq]
          clear hq hU
          go_wp2_with fail
          exact ⟨⟨by first | trivial | rfl, t + 1, by omega, by go_num, by rw [HC.out]⟩, by simp [intOf]; omega⟩
      · obtain rfl : n = t := by omega
        have hco := cnt_out U n
        obtain ⟨R, hR⟩ : ∃ R, R = cnt U n := ⟨_, rfl⟩
        rw [← hR] at hco ⊢
        by_cases hz : cnt (out14 U) n = 0
        · have hRn : R = n := by omega
          have HV : Hid (wrap64 (dU n (rdg n dz) U) = 1) := by show _ = _; rw [dU_full _ hz]; exact w_small (by decide) (by decide)
          rw [hRn]
          clear hR hco hz hRn
          go_wp2_with fail
          go_ret
          exact ⟨by rw [HV.out]; rfl, HR.out, Below.refl _ _⟩
        · have hRn : R < n := by omega
          have tR : ((R : Int) == (n : Int)) = false := by simp; omega
          have HZ : Hid (dU n (rdg n dz) U = sm n (tm14 n (rdg n dz) U)) := dU_step _ hz
          have HRc : Hid (R = cnt U n) := hR
          clear hR hco hz
          go_wp2_with fail
          go_loopw [9, 10, 11] (fun a s j wr => ∃ t : Nat, t ≤ n ∧ j = .int .i64 t ∧ a = .int .i64 (wrap64 (sm t (tm14 n (rdg n dz) U))) ∧ s = .int .i64 (sg (cnt (out14 U) t)) ∧ wr.rowIs B 4 n (bol U) ∧ Below B w wr) (fun _ _ j _ => n - (intOf j).toNat)
          case atStart => exact ⟨0, Nat.zero_le _, rfl, congrArg (Value.int .i64) (w_small (n := 0) (by decide) (by decide)).symm, rfl, HR.out, Below.refl _ _⟩
          case round =>
            obtain ⟨t, ht, rfl, rfl, rfl, hrw, hBl⟩ := hrel
            have HQ : Hid (wr.rowIs B 4 n (bol U) ∧ Below B w wr) := ⟨hrw, hBl⟩
            clear hrw hBl
            by_cases hlt : t < n
            · have c0 := HQ.out.1.cell hlt
              unfold bol at c0
              have f0 := HQ.out.1.frozen t
              obtain ⟨A0, hA0⟩ : ∃ x, x = wrap64 (sm t (tm14 n (rdg n dz) U)) := ⟨_, rfl⟩
              obtain ⟨sv, hsv⟩ : ∃ x, x = sg (cnt (out14 U) t) := ⟨_, rfl⟩
              cases hU : U t with
              | true =>
                rw [hU] at c0
                have hS : out14 U t = false := by unfold out14; rw [hU]; rfl
                have HS : Hid (wrap64 (sm (t + 1) (tm14 n (rdg n dz) U)) = A0 ∧ sg (cnt (out14 U) (t + 1)) = sv) := by
                  refine ⟨?_, ?_⟩
                  · rw [hA0]
                    show wrap64 (sm t _ + tm14 n (rdg n dz) U t) = _
                    rw [show tm14 n (rdg n dz) U t = 0 from if_neg (by rw [hS]; decide), Int.add_zero]
                  · rw [cnt, if_neg (by rw [hS]; decide), hsv]
                    rfl
                rw [← hA0, ← hsv]
                clear hA0 hsv hU hS
                go_wp2_with fail
                exact ⟨⟨t + 1, by omega, by go_num, by rw [HS.out.1], by rw [HS.out.2], HQ.out.1, HQ.out.2⟩, by simp [intOf]; omega⟩
              | false =>
                rw [hU] at c0
                have hS : out14 U t = true := by unfold out14; rw [hU]; rfl
                obtain ⟨Pr, hPr⟩ : ∃ P, P = R * n := ⟨_, rfl⟩
                obtain ⟨X, hX⟩ : ∃ X, X = Pr + t := ⟨_, rfl⟩
                have hPri : (R : Int) * (n : Int) = (Pr : Int) := by rw [hPr]; simp
                have hXi : (Pr : Int) + (t : Int) = (X : Int) := by omega
                have bX : X < N := by rw [hX, hPr, HN.out.1]; exact row_lt hRn hlt
                have hw1 : IntKind.i64.wrap (Pr : Int) = (Pr : Int) := by rw [IntWalk.i64_left]; exact w_small (by omega) (by omega)
                have hw2 : IntKind.i64.wrap (X : Int) = (X : Int) := by rw [IntWalk.i64_left]; exact w_small (by omega) (by omega)
                have bXi : (X : Int) < (N : Int) := by omega
                have HX : Hid (X = R * n + t) := by show _ = _; rw [hX, hPr]
                clear hPr hX
                obtain ⟨bd, od, rfl, hbd, hcd⟩ := HI.out.at (q := X) (by rw [HN.out.2]; exact bX)
                obtain ⟨dv, hdv⟩ : ∃ x, x = nth dz X := ⟨_, rfl⟩
                have HCd : Hid (∀ v, Below B w v → v.cell? ⟨bd, od + X, none⟩ = some (.int .i64 dv)) := fun v hv => (hv.cell (p := ⟨bd, od + X, none⟩) hbd).trans (by rw [hdv]; exact hcd X (by rw [HN.out.2]; exact bX))
                clear hcd
                obtain ⟨dd, hdd⟩ : ∃ x, x = wrap64 (dU n (rdg n dz) (add14 U t)) := ⟨_, rfl⟩
                obtain ⟨p1, hx1⟩ : ∃ x, IntKind.i64.wrap (sv * dv) = x := ⟨_, rfl⟩
                obtain ⟨p2, hx2⟩ : ∃ x, IntKind.i64.wrap (p1 * dd) = x := ⟨_, rfl⟩
                obtain ⟨A1, hx3⟩ : ∃ x, IntKind.i64.wrap (A0 + p2) = x := ⟨_, rfl⟩
                obtain ⟨s1, hs1⟩ : ∃ x, wrap64 (-sv) = x := ⟨_, rfl⟩
                have hs2 : IntKind.i64.wrap (-sv) = s1 := by rw [IntWalk.i64_left]; exact hs1
                have HS : Hid (wrap64 (sm (t + 1) (tm14 n (rdg n dz) U)) = A1 ∧ sg (cnt (out14 U) (t + 1)) = s1) := by
                  refine ⟨?_, ?_⟩
                  · rw [← hx3, ← hx2, ← hx1, hA0, hdd, hsv, hdv, HX.out]
                    rw [IntWalk.i64_left, IntWalk.i64_left, IntWalk.i64_left, w_mulr, w_mull, w_addl, w_addr]
                    show wrap64 (sm t _ + tm14 n (rdg n dz) U t) = _
                    rw [show tm14 n (rdg n dz) U t = sg (cnt (out14 U) t) * rdg n dz (cnt U n) t * dU n (rdg n dz) (add14 U t) from if_pos hS, ← HRc.out, rdg_at hRn hlt]
                  · rw [cnt, if_pos hS, ← hs1, hsv, sg_next]
                have HT : Hid (∀ (v : World), v.rowIs B 4 n (bol (add14 U t)) → Below B w v → Calls Tryd.prog 23 #[.int .i64 (n : Nat), .slice (some ⟨bd, od, none⟩) N dc, .slice (some ⟨B, 0, none⟩) n n] v fun e w' => e = .returned (.int .i64 dd) ∧ w'.rowIs B 4 n (bol (add14 U t)) ∧ Below B v w') := fun v hv hB => by
                  have h1 : cnt (out14 (add14 U t)) n < m := by rw [out_add]; have := cnt_rem_all hS hlt; have := HM.out; omega
                  rw [hdd]
                  exact HIH.out _ h1 _ B v rfl hv (HI.out.below hB)
                have HU : Hid (U t = false) := hU
                rw [← hA0, ← hsv]
                clear hA0 hsv hU hS hdd hdv
                go_upto_region 16 with fail
                obtain ⟨w1, HW1⟩ : ∃ x, Hid (x = wr.setCell ⟨B, t, none⟩ (.bool true)) := ⟨_, rfl⟩
                rw [← HW1.out]
                have HQ1 : Hid (w1.rowIs B 4 n (bol (add14 U t)) ∧ Below B w w1) := by
                  show _ ∧ _
                  rw [HW1.out]
                  exact ⟨bol_add HQ.out.1 t, HQ.out.2.setCell (p := ⟨B, t, none⟩) (Nat.le_refl _) _⟩
                clear HW1 HQ c0 f0
                have hb0 : Below B w w1.drew := HQ1.out.2.drew
                refine anyC_begin (fun w' => w'.cell? ⟨bd, od + X, none⟩ = some (.int .i64 dv)) 18 #[false, false, false, false, false, false, false, false, false, false, false, false, false, false, false, false, false, false] (by kernel_rfl) rfl rfl ?_
                refine anyC_put 0 38 ?rv0 #[true, false, false, false, false, false, false, false, false, false, false, false, false, false, false, false, false, false] rfl rfl rfl (by kernel_rfl) (by kernel_rfl) (by kernel_rfl) (fun _ _ _ h => h) ?ry0 (HCd.out _ hb0) ?rm0
                case ry0 => first | exact Or.inl ⟨by rfl, by intro w'; go_simp; first | done | rfl⟩
                case rm0 =>
                simp only [Act.put, List.setIfInBounds_toArray, List.set_cons_zero, List.set_cons_succ]
                refine anyC_put 1 39 ?rv1 #[true, true, false, false, false, false, false, false, false, false, false, false, false, false, false, false, false, false] rfl rfl rfl (by kernel_rfl) (by kernel_rfl) (by kernel_rfl) (fun _ _ _ h => h) ?ry1 (HCd.out _ hb0) ?rm1
                case ry1 => first | exact Or.inl ⟨by rfl, by intro w'; go_simp; first | done | rfl⟩
                case rm1 =>
                simp only [Act.put, List.setIfInBounds_toArray, List.set_cons_zero, List.set_cons_succ]
                refine anyC_put 2 40 ?rv2 #[true, true, true, false, false, false, false, false, false, false, false, false, false, false, false, false, false, false] rfl rfl rfl (by kernel_rfl) (by kernel_rfl) (by kernel_rfl) (fun _ _ _ h => h) ?ry2 (HCd.out _ hb0) ?rm2
                case ry2 => first | exact Or.inl ⟨by rfl, by intro w'; go_simp; first | done | rfl⟩
                case rm2 =>
                simp only [Act.put, List.setIfInBounds_toArray, List.set_cons_zero, List.set_cons_succ]
                refine anyC_put 3 41 ?rv3 #[true, true, true, true, false, false, false, false, false, false, false, false, false, false, false, false, false, false] rfl rfl rfl (by kernel_rfl) (by kernel_rfl) (by kernel_rfl) (fun _ _ _ h => h) ?ry3 (HCd.out _ hb0) ?rm3
                case ry3 => first | exact Or.inl ⟨by rfl, by intro w'; go_simp; first | done | rfl⟩
                case rm3 =>
                simp only [Act.put, List.setIfInBounds_toArray, List.set_cons_zero, List.set_cons_succ]
                refine anyC_put 4 42 ?rv4 #[true, true, true, true, true, false, false, false, false, false, false, false, false, false, false, false, false, false] rfl rfl rfl (by kernel_rfl) (by kernel_rfl) (by kernel_rfl) (fun _ _ _ h => h) ?ry4 (HCd.out _ hb0) ?rm4
                case ry4 => first | exact Or.inl ⟨by rfl, by intro w'; go_simp; first | done | rfl⟩
                case rm4 =>
                simp only [Act.put, List.setIfInBounds_toArray, List.set_cons_zero, List.set_cons_succ]
                refine anyC_put 5 43 ?rv5 #[true, true, true, true, true, true, false, false, false, false, false, false, false, false, false, false, false, false] rfl rfl rfl (by kernel_rfl) (by kernel_rfl) (by kernel_rfl) (fun _ _ _ h => h) ?ry5 (HCd.out _ hb0) ?rm5
                case ry5 => first | exact Or.inl ⟨by rfl, by intro w'; go_simp; first | done | rfl⟩
                case rm5 =>
                simp only [Act.put, List.setIfInBounds_toArray, List.set_cons_zero, List.set_cons_succ]
                refine anyC_put 6 44 ?rv6 #[true, true, true, true, true, true, true, false, false, false, false, false, false, false, false, false, false, false] rfl rfl rfl (by kernel_rfl) (by kernel_rfl) (by kernel_rfl) (fun _ _ _ h => h) ?ry6 (HCd.out _ hb0) ?rm6
                case ry6 => first | exact Or.inl ⟨by rfl, by intro w'; go_simp; first | done | rfl⟩
                case rm6 =>
                simp only [Act.put, List.setIfInBounds_toArray, List.set_cons_zero, List.set_cons_succ]
                refine anyC_put 7 45 ?rv7 #[true, true, true, true, true, true, true, true, false, false, false, false, false, false, false, false, false, false] rfl rfl rfl (by kernel_rfl) (by kernel_rfl) (by kernel_rfl) (fun _ _ _ h => h) ?ry7 (HCd.out _ hb0) ?rm7
                case ry7 => first | exact Or.inl ⟨by rfl, by intro w'; go_simp; first | done | rfl⟩
                case rm7 =>
                simp only [Act.put, List.setIfInBounds_toArray, List.set_cons_zero, List.set_cons_succ]
                refine anyC_put 8 46 ?rv8 #[true, true, true, true, true, true, true, true, true, false, false, false, false, false, false, false, false, false] rfl rfl rfl (by kernel_rfl) (by kernel_rfl) (by kernel_rfl) (fun _ _ _ h => h) ?ry8 (HCd.out _ hb0) ?rm8
                case ry8 => first | exact Or.inl ⟨by rfl, by intro w'; go_simp; first | done | rfl⟩
                case rm8 =>
                simp only [Act.put, List.setIfInBounds_toArray, List.set_cons_zero, List.set_cons_succ]
                refine anyC_take 9 47 ?rv9 #[true, true, true, true, true, true, true, true, true, true, false, false, false, false, false, false, false, false] rfl rfl rfl (by kernel_rfl) (by kernel_rfl) (by kernel_rfl) (fun _ _ _ h => h) ?ry9 (HCd.out _ hb0) ?rm9
                case ry9 => first | exact Or.inl ⟨by rfl, by intro w' hw'; (try dsimp only at hw'); go_simp; first | done | rfl⟩
                case rm9 =>
                simp only [Act.put, List.setIfInBounds_toArray, List.set_cons_zero, List.set_cons_succ]
                refine anyC_put 10 48 ?rv10 #[true, true, true, true, true, true, true, true, true, true, true, false, false, false, false, false, false, false] rfl rfl rfl (by kernel_rfl) (by kernel_rfl) (by kernel_rfl) (fun _ _ _ h => h) ?ry10 (HCd.out _ hb0) ?rm10
                case ry10 => first | exact Or.inl ⟨by rfl, by intro w'; go_simp; first | done | rfl⟩
                case rm10 =>
                simp only [Act.put, List.setIfInBounds_toArray, List.set_cons_zero, List.set_cons_succ]
                refine anyC_put 11 49 ?rv11 #[true, true, true, true, true, true, true, true, true, true, true, true, false, false, false, false, false, false] rfl rfl rfl (by kernel_rfl) (by kernel_rfl) (by kernel_rfl) (fun _ _ _ h => h) ?ry11 (HCd.out _ hb0) ?rm11
                case ry11 => first | exact Or.inl ⟨by rfl, by intro w'; go_simp; first | done | rfl⟩
                case rm11 =>
                simp only [Act.put, List.setIfInBounds_toArray, List.set_cons_zero, List.set_cons_succ]
                refine anyC_put 12 50 ?rv12 #[true, true, true, true, true, true, true, true, true, true, true, true, true, false, false, false, false, false] rfl rfl rfl (by kernel_rfl) (by kernel_rfl) (by kernel_rfl) (fun _ _ _ h => h) ?ry12 (HCd.out _ hb0) ?rm12
                case ry12 => first | exact Or.inl ⟨by rfl, by intro w'; go_simp; first | done | rfl⟩
                case rm12 =>
                simp only [Act.put, List.setIfInBounds_toArray, List.set_cons_zero, List.set_cons_succ]
                refine anyC_put 13 51 ?rv13 #[true, true, true, true, true, true, true, true, true, true, true, true, true, true, false, false, false, false] rfl rfl rfl (by kernel_rfl) (by kernel_rfl) (by kernel_rfl) (fun _ _ _ h => h) ?ry13 (HCd.out _ hb0) ?rm13
                case ry13 => first | exact Or.inl ⟨by rfl, by intro w'; go_simp; first | done | rfl⟩
                case rm13 =>
                simp only [Act.put, List.setIfInBounds_toArray, List.set_cons_zero, List.set_cons_succ]
                refine anyC_one 14 #[true, true, true, true, true, true, true, true, true, true, true, true, true, true, true, false, false, false] (by kernel_rfl) rfl rfl (fun K hK => ?_)
                go_simp
                go_wp2_with (go_at_call 23; refine (HT.out w1.drew HQ1.out.1 hb0).mono ?_; rintro e w2 ⟨rfl, hr2, hB2⟩)
                have HQ2 : Hid (w2.rowIs B 4 n (bol (add14 U t)) ∧ Below B w w2) := ⟨hr2, hb0.trans hB2⟩
                refine hK.out _ _ (HCd.out _ HQ2.out.2) ?_
                clear hK K
                refine anyC_put 15 53 ?rv15 #[true, true, true, true, true, true, true, true, true, true, true, true, true, true, true, true, false, false] rfl rfl rfl (by kernel_rfl) (by kernel_rfl) (by kernel_rfl) (fun _ _ _ h => h) ?ry15 (HCd.out _ HQ2.out.2) ?rm15
                case ry15 => first | exact Or.inl ⟨by rfl, by intro w'; go_simp; first | done | rfl⟩
                case rm15 =>
                simp only [Act.put, List.setIfInBounds_toArray, List.set_cons_zero, List.set_cons_succ]
                refine anyC_put 16 54 ?rv16 #[true, true, true, true, true, true, true, true, true, true, true, true, true, true, true, true, true, false] rfl rfl rfl (by kernel_rfl) (by kernel_rfl) (by kernel_rfl) (fun _ _ _ h => h) ?ry16 (HCd.out _ HQ2.out.2) ?rm16
                case ry16 => first | exact Or.inl ⟨by rfl, by intro w'; go_simp; first | done | rfl⟩
                case rm16 =>
                simp only [Act.put, List.setIfInBounds_toArray, List.set_cons_zero, List.set_cons_succ]
                refine anyC_put 17 9 ?rv17 #[true, true, true, true, true, true, true, true, true, true, true, true, true, true, true, true, true, true] rfl rfl rfl (by kernel_rfl) (by kernel_rfl) (by kernel_rfl) (fun _ _ _ h => h) ?ry17 (HCd.out _ HQ2.out.2) ?rm17
                case ry17 => first | exact Or.inl ⟨by rfl, by intro w'; go_simp; first | done | rfl⟩
                case rm17 =>
                simp only [Act.put, List.setIfInBounds_toArray, List.set_cons_zero, List.set_cons_succ]
                refine anyC_done (by kernel_rfl) ?_
                clear HQ1 hr2 hB2 hb0
                have c2 := HQ2.out.1.cell hlt
                have f2 := HQ2.out.1.frozen t
                unfold bol at c2
                go_upto_region 13 with fail
                obtain ⟨w3, HW3⟩ : ∃ x, Hid (x = w2.setCell ⟨B, t, none⟩ (.bool false)) := ⟨_, rfl⟩
                rw [← HW3.out]
                have HQ3 : Hid (w3.rowIs B 4 n (bol U) ∧ Below B w w3) := by
                  show _ ∧ _
                  rw [HW3.out]
                  exact ⟨bol_back HQ2.out.1 HU.out, HQ2.out.2.setCell (p := ⟨B, t, none⟩) (Nat.le_refl _) _⟩
                clear HW3 HQ2 c2 f2
                go_wp2_with fail
                exact ⟨⟨t + 1, by omega, by go_num, by rw [HS.out.1], by rw [HS.out.2], HQ3.out.1, HQ3.out.2⟩, by simp [intOf]; omega⟩
            · obtain rfl : n = t := by omega
              rw [← HZ.out]
              go_wp2_with fail
              go_ret
              exact ⟨rfl, HQ.out.1, HQ.out.2⟩
end Go.Proofs.YtjaabemlpiafaaaDoor
