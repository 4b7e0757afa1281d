/-
  The reference's adjugate.
-/
import Derived.Test.YtjaabemlpiafaaaDoorRmi
import Derived.Test.YtjaabemlpiafaaaDoorMte
namespace Go.Proofs.YtjaabemlpiafaaaDoor
open Go.RowKit
set_option linter.unusedVariables false

theorem ne_cast14 (a b : Nat) : ((a : Int) != (b : Int)) = !(a == b) := by
  by_cases e : a = b
  · subst e
    simp
  · have h2 : ¬ (a : Int) = (b : Int) := by omega
    have h3 : ((a : Int) == (b : Int)) = false := beq_false_of_ne h2
    have h4 : (a == b) = false := beq_false_of_ne e
    show (!((a : Int) == (b : Int))) = _
    rw [h3, h4]
/-- All but one, so far. -/
def alB (p k : Nat) : Nat → Bool := fun x => if x < k then !(x == p) else false
/-- All but one. -/
def but (p : Nat) : Nat → Bool := rem (fun _ => true) p
theorem alB_next {wr : World} {B n p k : Nat} {t : TypeId} {v : Bool} (h : wr.rowIs B t n (bol (alB p k))) (hv : v = !(k == p)) : (wr.setCell ⟨B, k, none⟩ (.bool v)).rowIs B t n (bol (alB p (k + 1))) :=
  (h.set k _).congr fun j hj => by
    unfold bol alB
    by_cases e : j = k
    · rw [if_pos e, if_pos (by omega), hv, e]
    · rw [if_neg e]
      by_cases q : j < k
      · rw [if_pos q, if_pos (show j < k + 1 by omega)]
      · rw [if_neg q, if_neg (show ¬ j < k + 1 by omega)]
theorem alB_all {w : World} {B n p : Nat} {t : TypeId} (h : w.rowIs B t n (bol (alB p n))) : w.rowIs B t n (bol (but p)) :=
  h.congr fun j hj => by
    unfold bol alB but rem
    rw [if_pos hj]
    by_cases e : j = p
    · rw [if_pos e, e]; simp
    · rw [if_neg e]; simp [e]
theorem cnt_but {m p : Nat} (h : p < m + 1) : cnt (but p) (m + 1) = m := by
  have h1 := cnt_rem_all (S := fun _ => true) (m := m + 1) (p := p) rfl h
  rw [cnt_full _ _ (fun _ _ => rfl)] at h1
  unfold but
  omega
theorem sel_but {m p k : Nat} (h : p < m + 1) (hk : k < m) : sel (but p) (m + 1) k = skp p k := by
  have hc : cnt (fun _ => true) (m + 1) = m + 1 := cnt_full _ _ (fun _ _ => rfl)
  have h1 := sel_rem (S := fun _ => true) (m := m + 1) (i := p) (k := k) (by omega) (by omega)
  rw [sel_full _ _ (fun _ _ => rfl), sel_full _ _ (fun _ _ => rfl)] at h1
  exact h1
theorem mnL_but {m i j : Nat} (A : Mx) (hi : i < m + 1) (hj : j < m + 1) : (mnL (m + 1) A (but j) (but i) (m + 1)).length = m * m ∧ dt m (rdg m (mnL (m + 1) A (but j) (but i) (m + 1))) = dt m (mnr j i A) := by
  refine ⟨by rw [mnL_len, cnt_but hi, cnt_but hj], dt_ext fun r hr c hc => ?_⟩
  rw [mnL_cls (cnt_but hj) (cnt_but hi), rdg_cls hr hc, sel_but hj hr, sel_but hi hc]
  rfl
/-- What a place of the adjugate has: the minor's determinant, or its opposite. -/
theorem ajg_even {n m i j : Nat} {A : Mx} (hn : n = m + 1) (hi : i < n) (hj : j < n) (h : (i + j) % 2 = 0) : wrap64 (dt m (mnr j i A)) = ajg n A i j := by
  rw [show ajg n A i j = wrap64 (ad (n - 1) A i j) from if_pos ⟨hi, hj⟩, hn]
  show _ = wrap64 (sg (i + j) * dt m (mnr j i A))
  rw [sg_even h, Int.one_mul]
theorem ajg_odd {n m i j : Nat} {A : Mx} (hn : n = m + 1) (hi : i < n) (hj : j < n) (h : (i + j) % 2 = 1) : wrap64 (-wrap64 (dt m (mnr j i A))) = ajg n A i j := by
  rw [show ajg n A i j = wrap64 (ad (n - 1) A i j) from if_pos ⟨hi, hj⟩, hn]
  show _ = wrap64 (sg (i + j) * dt m (mnr j i A))
  rw [sg_odd h, Int.neg_one_mul, w_neg]
set_option maxRecDepth 100000 in
set_option maxHeartbeats 1000000 in
theorem adjug_ref (n : Nat) (hn : n ≤ 6) (N : Nat) (hN : N = n * n) (da : Option Addr) (dc : Nat) (dz : List Int) (hl : dz.length = N) (w : World) (hI : IsInts w.heap.size w da dz) :
    Calls Tryd.prog 15 #[.int .i64 (n : Nat), .slice da N dc] w (LnC (cls n (ajg n (rdg n dz))) N w) := by
  have N36 : N ≤ 36 := by have : n * n ≤ 6 * 6 := Nat.mul_le_mul hn hn; omega
  obtain ⟨F, hF⟩ : ∃ F : Mx, F = ajg n (rdg n dz) := ⟨_, rfl⟩
  have HF : Hid (F = ajg n (rdg n dz)) := hF
  have HM : Hid (cls n (ajg n (rdg n dz)) = fst14 n F N) := by show _ = fst14 n F N; rw [hN, fst_all, hF]
  rw [HM.out]
  have HN : Hid (N = n * n ∧ dz.length = N) := ⟨hN, hl⟩
  have HI : Hid (IsInts w.heap.size w da dz) := hI
  have hmk := run_make_row' (P := Tryd.prog) 47 4 (.bool false) 1 Tryd.underlying47 infoBool14 rfl .i64 .i64 n (by omega) (by omega)
  clear hI hN hl hF HM
  go_enter Tryd.func15, Tryd.ntmps15
  go_wp2_with fail
  go_loopw [5, 6] (fun o i wr => ∃ I M : Nat, I ≤ n ∧ i = .int .i64 I ∧ M = I * n ∧ wr.ownsRow w.heap.size 3 1 o M ((fst14 n F M).map (Value.int .i64)) ∧ Below w.heap.size w wr) (fun _ i _ => n - (intOf i).toNat)
  case atStart => exact ⟨0, 0, Nat.zero_le _, rfl, by simp, World.ownsRow_nil _ _ _ _, Below.refl _ _⟩
  case round =>
    obtain ⟨I, M, hI, rfl, hM, hO, hBl⟩ := hrel
    have HO : Hid (M = I * n ∧ wr.ownsRow w.heap.size 3 1 u5 M ((fst14 n F M).map (Value.int .i64)) ∧ Below w.heap.size w wr) := ⟨hM, hO, hBl⟩
    clear hM hO hBl
    by_cases hlt : I < n
    · go_wp2_with fail
      obtain ⟨wk, hwk⟩ : ∃ x, x = wr := ⟨_, rfl⟩
      subst hwk
      go_loopw [5, 7] (fun o j wr => ∃ J M : Nat, J ≤ n ∧ j = .int .i64 J ∧ M = I * n + J ∧ wr.ownsRow w.heap.size 3 1 o M ((fst14 n F M).map (Value.int .i64)) ∧ Below w.heap.size w wr) (fun _ j _ => n - (intOf j).toNat)
      case atStart => exact ⟨0, M, Nat.zero_le _, rfl, HO.out.1, HO.out.2.1, HO.out.2.2⟩
      case round =>
        clear HO
        obtain ⟨J, M', hJ, rfl, hM, hO, hBl⟩ := hrel
        have HO : Hid (M' = I * n + J ∧ wr.ownsRow w.heap.size 3 1 u5 M' ((fst14 n F M').map (Value.int .i64)) ∧ Below w.heap.size w wr) := ⟨hM, hO, hBl⟩
        clear hM hO hBl
        by_cases hjt : J < n
        · obtain ⟨wj, hwj⟩ : ∃ x, x = wr := ⟨_, rfl⟩
          subst hwj
          go_wp2_with fail
          obtain ⟨w0, HW0⟩ : ∃ x, Hid (x = (wj.alloc (.cells (madeCells #[.bool false] n) 4)).alloc (.cells (madeCells #[.bool false] n) 4)) := ⟨_, rfl⟩
          rw [← HW0.out]
          have HR0 : Hid (w0.rowIs wj.heap.size 4 n (bol (alB J 0)) ∧ w0.rowIs (wj.heap.size + 1) 4 n (bol (alB I 0)) ∧ Below wj.heap.size wj w0) := by
            have e2 := World.rowIs_made (wj.alloc (.cells (madeCells #[.bool false] n) 4)) (.bool false) n 4
            rw [World.size_alloc] at e2
            show _ ∧ _
            rw [HW0.out]
            exact ⟨((World.rowIs_made wj (.bool false) n 4).alloc _).congr fun _ _ => rfl, e2.congr fun _ _ => rfl, ((Below.refl _ wj).alloc (Nat.le_refl _) _).alloc (by simp) _⟩
          clear HW0
          go_loopw [10] (fun k wr => ∃ K : Nat, K ≤ n ∧ k = .int .i64 K ∧ wr.rowIs wj.heap.size 4 n (bol (alB J K)) ∧ wr.rowIs (wj.heap.size + 1) 4 n (bol (alB I K)) ∧ Below wj.heap.size wj wr) (fun k _ => n - (intOf k).toNat)
          case atStart => exact ⟨0, Nat.zero_le _, rfl, HR0.out⟩
          case round =>
            clear HR0
            obtain ⟨K, hK, rfl, hQ⟩ := hrel
            have HQ : Hid (wr.rowIs wj.heap.size 4 n (bol (alB J K)) ∧ wr.rowIs (wj.heap.size + 1) 4 n (bol (alB I K)) ∧ Below wj.heap.size wj wr) := hQ
            clear hQ
            by_cases hkt : K < n
            · obtain ⟨v1, hv1⟩ : ∃ v, ((K : Int) != (J : Int)) = v := ⟨_, rfl⟩
              obtain ⟨v2, hv2⟩ : ∃ v, ((K : Int) != (I : Int)) = v := ⟨_, rfl⟩
              have HV : Hid (v1 = !(K == J) ∧ v2 = !(K == I)) := ⟨by rw [← hv1, ne_cast14], by rw [← hv2, ne_cast14]⟩
              have c1 := HQ.out.1.cell hkt
              have f1 := HQ.out.1.frozen K
              unfold bol at c1
              go_upto_region 14 with fail
              obtain ⟨wa, HWa⟩ : ∃ x, Hid (x = wr.setCell ⟨wj.heap.size, K, none⟩ (.bool v1)) := ⟨_, rfl⟩
              rw [← HWa.out]
              have HQ1 : Hid (wa.rowIs wj.heap.size 4 n (bol (alB J (K + 1))) ∧ wa.rowIs (wj.heap.size + 1) 4 n (bol (alB I K)) ∧ Below wj.heap.size wj wa) := by
                show _ ∧ _
                rw [HWa.out]
                exact ⟨alB_next HQ.out.1 HV.out.1, HQ.out.2.1.setOther (a := ⟨wj.heap.size, K, none⟩) (by show wj.heap.size + 1 ≠ wj.heap.size; omega) _, HQ.out.2.2.setCell (p := ⟨wj.heap.size, K, none⟩) (Nat.le_refl _) _⟩
              clear HWa HQ c1 f1
              have c2 := HQ1.out.2.1.cell hkt
              have f2 := HQ1.out.2.1.frozen K
              unfold bol at c2
              go_upto_region 12 with fail
              obtain ⟨wb, HWb⟩ : ∃ x, Hid (x = wa.setCell ⟨wj.heap.size + 1, K, none⟩ (.bool v2)) := ⟨_, rfl⟩
              rw [← HWb.out]
              have HQ2 : Hid (wb.rowIs wj.heap.size 4 n (bol (alB J (K + 1))) ∧ wb.rowIs (wj.heap.size + 1) 4 n (bol (alB I (K + 1))) ∧ Below wj.heap.size wj wb) := by
                show _ ∧ _
                rw [HWb.out]
                exact ⟨HQ1.out.1.setOther (a := ⟨wj.heap.size + 1, K, none⟩) (by show wj.heap.size ≠ wj.heap.size + 1; omega) _, alB_next HQ1.out.2.1 HV.out.2, HQ1.out.2.2.setCell (p := ⟨wj.heap.size + 1, K, none⟩) (by show wj.heap.size ≤ wj.heap.size + 1; omega) _⟩
              clear HWb HQ1 c2 f2
              go_wp2_with fail
              exact ⟨⟨K + 1, by omega, by go_num, HQ2.out⟩, by simp [intOf]; omega⟩
            · obtain rfl : n = K := by omega
              obtain ⟨m, hm⟩ : ∃ m, n = m + 1 := ⟨n - 1, by omega⟩
              have hBw : Below w.heap.size w wr := HO.out.2.2.trans (HQ.out.2.2.mono HO.out.2.2.size)
              have hMi := minor_any n hn N HN.out.1 da dc dz HN.out.2 (but J) (but I) wj.heap.size (wj.heap.size + 1) wr (alB_all HQ.out.1) (alB_all HQ.out.2.1) ((HI.out.below hBw).mono hBw.size)
              obtain ⟨P, hP⟩ : ∃ P, P = mnL n (rdg n dz) (but J) (but I) n := ⟨_, rfl⟩
              have hPp : P.length = m * m ∧ dt m (rdg m P) = dt m (mnr J I (rdg n dz)) := by
                rw [hP]
                subst hm
                exact mnL_but (rdg (m + 1) dz) hlt hjt
              obtain ⟨N1, hN1⟩ : ∃ N1, N1 = m * m := ⟨_, rfl⟩
              rw [← hP, hPp.1, ← hN1, show cnt (but J) n = m by subst hm; exact cnt_but hjt] at hMi
              obtain ⟨dd, hdd⟩ : ∃ x, x = wrap64 (dt m (mnr J I (rdg n dz))) := ⟨_, rfl⟩
              have HD : Hid (∀ (g : Option Addr) (c : Nat) (v : World), NewC wr.heap.size v g P c → Calls Tryd.prog 8 #[.int .i64 (m : Nat), .slice g N1 c] v fun e w' => e = .returned (.int .i64 dd) ∧ Below v.heap.size v w') := fun g c v hX => by
                rw [hdd, ← hPp.2]
                exact det_ref m (by omega) N1 hN1 g c P (by rw [hPp.1, hN1]) v hX.1.ints
              obtain ⟨y, hy⟩ : ∃ y, y = F I J := ⟨_, rfl⟩
              obtain ⟨L, hL⟩ : ∃ L, L = fst14 n F M' := ⟨_, rfl⟩
              have HLn : Hid (L.length = M') := by show _ = _; rw [hL, fst_len]
              have HE : Hid (fst14 n F (M' + 1) = L ++ [y]) := by show _ = _; rw [hL, hy, HO.out.1, fst_at hjt]
              have bM : M' < N := by rw [HO.out.1, HN.out.1]; exact row_lt hlt hjt
              have HO2 : Hid (wr.ownsRow w.heap.size 3 1 u5 L.length (L.map (Value.int .i64))) := by rw [HLn.out, hL]; exact own_go HO.out.2.1 HQ.out.2.2
              have HBw : Hid (Below w.heap.size w wr) := hBw
              have HY0 : Hid ((I + J) % 2 = 0 → dd = y) := fun h => by rw [hdd, hy, HF.out]; exact ajg_even hm hlt hjt h
              have HY1 : Hid ((I + J) % 2 = 1 → wrap64 (-dd) = y) := fun h => by rw [hdd, hy, HF.out]; exact ajg_odd hm hlt hjt h
              have HMm : Hid (M' = I * n + J) := HO.out.1
              have hm6 : m ≤ 6 := by omega
              clear hP hPp hN1 hdd hy hL hBw HQ HO hm
              obtain ⟨S, hS⟩ : ∃ S, S = I + J := ⟨_, rfl⟩
              have hSi : (I : Int) + (J : Int) = (S : Int) := by omega
              rw [← hS] at HY0 HY1
              clear hS
              go_wp2_with fail
              refine hMi.mono ?_
              rintro e w2 ⟨g, c, rfl, hX, hB⟩
              have hD := HD.out g c w2 hX
              have HB2 : Hid (Below wr.heap.size wr w2) := hB
              clear hMi HD hX hB
              go_wp2_with fail
              refine hD.mono ?_
              rintro e w3 ⟨rfl, hB⟩
              have HB3 : Hid (Below wr.heap.size wr w3) := HB2.out.trans (hB.mono HB2.out.size)
              have HO3 : Hid (w3.ownsRow w.heap.size 3 1 u5 L.length (L.map (Value.int .i64))) := own_go HO2.out HB3.out
              have HBq : Hid (Below w.heap.size w w3) := HBw.out.trans (HB3.out.mono HBw.out.size)
              have HNw : Hid ((w3.alloc (.cells #[.int .i64 y] 3)).heap[w3.heap.size]? = some (.cells #[.int .i64 y] 3 (0, 0))) := World.alloc_heap_new _ _
              clear hD hB HB2 HB3 HO2 HBw
              by_cases hod : S % 2 = 1
              · have hr : (S : Int).tmod 2 = 1 := by have : ((S % 2 : Nat) : Int) = 1 := by rw [hod]; rfl
                                                     exact this
                have hr2 : (S : Int) % 2 = 1 := by omega
                have hyy := HY1.out hod
                have hyy2 : IntKind.i64.wrap (-dd) = y := by rw [IntWalk.i64_left]; exact hyy
                clear HY0 HY1 hod
                go_wp2_with (at_builtin; refine app_list rfl _ _ rfl _ w.heap.size w3.heap.size u5 L y rfl rfl (HO3.out.alloc _) HNw.out (by have := HLn.out; omega) (by have := HBq.out.size; simp; omega) ?_; intro g1 gc1 w4 hown1 hB4)
                refine ⟨⟨J + 1, M' + 1, by omega, by go_num, by rw [HMm.out]; rfl, ?_, HBq.out.trans (((Below.refl _ w3).alloc HBq.out.size _).trans hB4)⟩, by simp [intOf]; omega⟩
                rw [HE.out]
                have h := hown1
                rw [HLn.out] at h ⊢
                exact h
              · have hev : S % 2 = 0 := by omega
                have hr : (S : Int).tmod 2 = 0 := by have : ((S % 2 : Nat) : Int) = 0 := by rw [hev]; rfl
                                                     exact this
                have hr2 : (S : Int) % 2 = 0 := by omega
                have hyy := HY0.out hev
                rw [hyy]
                clear HY0 HY1 hod hev hyy
                go_wp2_with (at_builtin; refine app_list rfl _ _ rfl _ w.heap.size w3.heap.size u5 L y rfl rfl (HO3.out.alloc _) HNw.out (by have := HLn.out; omega) (by have := HBq.out.size; simp; omega) ?_; intro g1 gc1 w4 hown1 hB4)
                refine ⟨⟨J + 1, M' + 1, by omega, by go_num, by rw [HMm.out]; rfl, ?_, HBq.out.trans (((Below.refl _ w3).alloc HBq.out.size _).trans hB4)⟩, by simp [intOf]; omega⟩
                rw [HE.out]
                have h := hown1
                rw [HLn.out] at h ⊢
                exact h
        · obtain rfl : n = J := by omega
          go_wp2_with fail
          exact ⟨⟨I + 1, M', by omega, by go_num, by rw [HO.out.1, Nat.succ_mul], HO.out.2.1, HO.out.2.2⟩, by simp [intOf]; omega⟩
    · obtain rfl : n = I := by omega
      obtain ⟨g, cap, e, hNC⟩ := own_cap HO.out.2.1
      have hMN : M = N := by rw [HO.out.1, HN.out.1]
      subst e
      go_wp2_with fail
      go_ret
      exact ⟨g, cap, by rw [fst_len, hMN]; rfl, by rw [hMN] at hNC; exact hNC, HO.out.2.2⟩
end Go.Proofs.YtjaabemlpiafaaaDoor
