/-
  The reference's products and powers of matrices.
-/
import Derived.Test.YtjaabemlpiafaaaDoorMtf
import Derived.Test.YtjaabemlpiafaaaDoorApps
namespace Go.Proofs.YtjaabemlpiafaaaDoor
open Go.RowKit
set_option linter.unusedVariables false

theorem put_cls {n r c : Nat} (hr : r < n) (hc : c < n) (F : Mx) (v : Int) : (cls n F).set (r * n + c) v = cls n (ptg F r c v) := by
  refine List.ext_getElem (by rw [List.length_set, cls_len, cls_len]) fun p h1 h2 => ?_
  have hp : p < n * n := by rw [cls_len] at h2; exact h2
  obtain ⟨d1, d2, d3⟩ := div_row hp
  rw [List.getElem_set, ← nth_get _ _ h2, cls_nth _ hp]
  unfold ptg
  by_cases e : r * n + c = p
  · rw [if_pos e, if_pos ⟨by rw [← e, row_div hc], by rw [← e, row_mod hc]⟩]
  · rw [if_neg e, if_neg (fun q => e (by rw [← q.1, ← q.2]; exact d3)), ← nth_get _ _ (by rw [cls_len]; exact hp), cls_nth _ hp]
/-- A list that is told, in memory of the call's own. -/
def LnC (L : List Int) (N : Nat) (w : World) (r : Ending) (w' : World) : Prop := ∃ g c, r = .returned (.slice g N c) ∧ NewC w.heap.size w' g L c ∧ Below w.heap.size w w'
/-- The first numbers of a list of n rows. -/
def fst14 (n : Nat) (F : Mx) (m : Nat) : List Int := (List.range m).map fun p => F (p / n) (p % n)
theorem fst_len (n : Nat) (F : Mx) (m : Nat) : (fst14 n F m).length = m := by simp [fst14]
theorem fst_next (n : Nat) (F : Mx) (m : Nat) : fst14 n F (m + 1) = fst14 n F m ++ [F (m / n) (m % n)] := by simp [fst14, List.range_succ]
theorem fst_at {n i j : Nat} (hj : j < n) (F : Mx) : fst14 n F (i * n + j + 1) = fst14 n F (i * n + j) ++ [F i j] := by rw [fst_next, row_div hj, row_mod hj]
theorem fst_all (n : Nat) (F : Mx) : fst14 n F (n * n) = cls n F := rfl
/-- 1 in the first so many places of the diagonal. -/
def uno (k : Nat) : Mx := fun i j => if i = j ∧ i < k then 1 else 0
theorem uno_zero (n : Nat) : cls n (uno 0) = List.replicate (n * n) 0 := by
  refine List.ext_getElem (by rw [cls_len, List.length_replicate]) fun p h1 h2 => ?_
  rw [← nth_get _ _ h1, cls_nth _ (by rw [cls_len] at h1; exact h1), List.getElem_replicate]
  unfold uno
  rw [if_neg (by omega)]
theorem uno_next (k : Nat) : ptg (uno k) k k 1 = uno (k + 1) := by
  funext r c
  unfold ptg uno
  by_cases h : r = k ∧ c = k
  · rw [if_pos h, if_pos (by omega)]
  · rw [if_neg h]
    by_cases h2 : r = c ∧ r < k
    · rw [if_pos h2, if_pos (by omega)]
    · rw [if_neg h2, if_neg (by omega)]
theorem uno_all (n : Nat) (A : Mx) : cls n (uno n) = cls n (pwg n A 0) := cls_congr fun i hi j hj => by
  rw [pwg_zero]
  rfl
set_option maxRecDepth 100000 in
set_option maxHeartbeats 2000000 in
theorem unit_ref (n : Nat) (hn : n ≤ 6) (N : Nat) (hN : N = n * n) (w : World) :
    Calls Tryd.prog 34 #[.int .i64 (n : Nat)] w (LnC (cls n (uno n)) N w) := by
  have N36 : N ≤ 36 := by have : n * n ≤ 6 * 6 := Nat.mul_le_mul hn hn; omega
  have hmul : (n : Int) * (n : Int) = (N : Int) := by rw [hN]; simp
  have HN : Hid (N = n * n) := hN
  clear hN
  have hmk := run_make_row' (P := Tryd.prog) 22 3 (.int .i64 0) 8 Tryd.underlying22 Tryd.infoInt rfl .i64 .i64 N (by omega) (by omega)
  have HM0 : Hid (MidC w.heap.size (w.heap.size + 1) (w.alloc (.cells (madeCells #[.int .i64 0] N) 3)) (some ⟨w.heap.size, 0, none⟩) (cls n (uno 0)) N) := by
    have h := zer_mid w 3 N
    show MidC _ _ _ _ _ _
    rw [uno_zero, ← HN.out]
    exact h
  go_enter Tryd.func34, Tryd.ntmps34
  go_wp2_with fail
  clear hmk
  go_loopw [4] (fun i wr => ∃ k : Nat, k ≤ n ∧ i = .int .i64 k ∧ MidC w.heap.size (w.heap.size + 1) wr (some ⟨w.heap.size, 0, none⟩) (cls n (uno k)) N ∧ Below w.heap.size w wr ∧ w.heap.size + 1 ≤ wr.heap.size) (fun i _ => n - (intOf i).toNat)
  case atStart => exact ⟨0, Nat.zero_le _, rfl, HM0.out, (Below.refl _ w).alloc (Nat.le_refl _) _, by simp⟩
  case round =>
    clear HM0
    obtain ⟨k, hk, rfl, hQ⟩ := hrel
    have HQ : Hid (MidC w.heap.size (w.heap.size + 1) wr (some ⟨w.heap.size, 0, none⟩) (cls n (uno k)) N ∧ Below w.heap.size w wr ∧ w.heap.size + 1 ≤ wr.heap.size) := hQ
    clear hQ
    by_cases hlt : k < n
    · obtain ⟨Q, hQ⟩ : ∃ Q, Q = k * n := ⟨_, rfl⟩
      obtain ⟨K, hK⟩ : ∃ K, K = Q + k := ⟨_, rfl⟩
      have hQi : (k : Int) * (n : Int) = (Q : Int) := by rw [hQ]; simp
      have hKi : (Q : Int) + (k : Int) = (K : Int) := by omega
      have bK : K < N := by rw [hK, hQ, HN.out]; exact row_lt hlt hlt
      have HK : Hid (K = k * n + k) := by show _ = _; rw [hK, hQ]
      clear hK hQ
      obtain ⟨b', o', e, m1, m2, m3, m4⟩ := HQ.out.1.at (i := K) (by rw [cls_len, ← HN.out]; exact bK)
      cases e
      rw [Nat.zero_add] at m3 m4
      go_upto_region 4 with fail
      obtain ⟨w1, HW1⟩ : ∃ x, Hid (x = wr.setCell ⟨w.heap.size, K, none⟩ (.int .i64 1)) := ⟨_, rfl⟩
      rw [← HW1.out]
      have HQ1 : Hid (MidC w.heap.size (w.heap.size + 1) w1 (some ⟨w.heap.size, 0, none⟩) (cls n (uno (k + 1))) N ∧ Below w.heap.size w w1 ∧ w.heap.size + 1 ≤ w1.heap.size) := by
        show _ ∧ _
        rw [HW1.out, ← uno_next, ← put_cls hlt hlt, ← HK.out]
        exact ⟨put0 HQ.out.1 (by rw [cls_len, ← HN.out]; exact bK) 1, HQ.out.2.1.setCell (p := ⟨w.heap.size, K, none⟩) (Nat.le_refl _) _, by rw [World.size_setCell]; exact HQ.out.2.2⟩
      clear HW1 HQ m1 m2 m3 m4
      go_wp2_with fail
      exact ⟨⟨k + 1, by omega, by go_num, HQ1.out⟩, by simp [intOf]; omega⟩
    · obtain rfl : n = k := by omega
      go_wp2_with fail
      go_ret
      exact ⟨_, _, rfl, ⟨(HQ.out.1.1.new HQ.out.2.2), HQ.out.1.2⟩, HQ.out.2.1⟩
set_option maxRecDepth 100000 in
set_option maxHeartbeats 4000000 in
theorem times_ref (n : Nat) (hn : n ≤ 6) (N : Nat) (hN : N = n * n) (a : Option Addr) (ca : Nat) (za : List Int) (b : Option Addr) (cb : Nat) (zb : List Int) (hla : za.length = N) (hlb : zb.length = N) (w : World) (hA : IsInts w.heap.size w a za) (hB : IsInts w.heap.size w b zb) :
    Calls Tryd.prog 35 #[.int .i64 (n : Nat), .slice a N ca, .slice b N cb] w (LnC (mmL n za zb) N w) := by
  have N36 : N ≤ 36 := by have : n * n ≤ 6 * 6 := Nat.mul_le_mul hn hn; omega
  obtain ⟨F, hF⟩ : ∃ F : Mx, F = fun i j => wrap64 (mm n (rdg n za) (rdg n zb) i j) := ⟨_, rfl⟩
  have HF : Hid (F = fun i j => wrap64 (mm n (rdg n za) (rdg n zb) i j)) := hF
  have HM : Hid (mmL n za zb = fst14 n F N) := by show mmL n za zb = fst14 n F N; rw [hN, fst_all, hF]; rfl
  rw [HM.out]
  have HN : Hid (N = n * n ∧ za.length = N ∧ zb.length = N) := ⟨hN, hla, hlb⟩
  have HI : Hid (IsInts w.heap.size w a za ∧ IsInts w.heap.size w b zb) := ⟨hA, hB⟩
  clear hA hB hN hla hlb hF HM
  go_enter Tryd.func35, Tryd.ntmps35
  go_wp2_with fail
  go_loopw [7, 8] (fun o i wr => ∃ I M : Nat, I ≤ n ∧ i = .int .i64 I ∧ M = I * n ∧ wr.ownsRow w.heap.size 3 1 o M ((fst14 n F M).map (Value.int .i64)) ∧ Below w.heap.size w wr) (fun _ i _ => n - (intOf i).toNat)
  case atStart => exact ⟨0, 0, Nat.zero_le _, rfl, by simp, World.ownsRow_nil _ _ _ _, Below.refl _ _⟩
  case round =>
    obtain ⟨I, M, hI, rfl, hM, hO, hBl⟩ := hrel
    have HO : Hid (M = I * n ∧ wr.ownsRow w.heap.size 3 1 u7 M ((fst14 n F M).map (Value.int .i64)) ∧ Below w.heap.size w wr) := ⟨hM, hO, hBl⟩
    clear hM hO hBl
    by_cases hlt : I < n
    · go_wp2_with fail
      obtain ⟨wk, hwk⟩ : ∃ x, x = wr := ⟨_, rfl⟩
      subst hwk
      go_loopw [7, 9] (fun o j wr => ∃ J M : Nat, J ≤ n ∧ j = .int .i64 J ∧ M = I * n + J ∧ wr.ownsRow w.heap.size 3 1 o M ((fst14 n F M).map (Value.int .i64)) ∧ Below w.heap.size w wr) (fun _ j _ => n - (intOf j).toNat)
      case atStart => exact ⟨0, M, Nat.zero_le _, rfl, HO.out.1, HO.out.2.1, HO.out.2.2⟩
      case round =>
        clear HO
        obtain ⟨J, M', hJ, rfl, hM, hO, hBl⟩ := hrel
        have HO : Hid (M' = I * n + J ∧ wr.ownsRow w.heap.size 3 1 u7 M' ((fst14 n F M').map (Value.int .i64)) ∧ Below w.heap.size w wr) := ⟨hM, hO, hBl⟩
        clear hM hO hBl
        by_cases hjt : J < n
        · go_wp2_with fail
          obtain ⟨wj, hwj⟩ : ∃ x, x = wr := ⟨_, rfl⟩
          subst hwj
          go_loopw [10, 11] (fun c k wr => ∃ K : Nat, K ≤ n ∧ k = .int .i64 K ∧ c = .int .i64 (wrap64 (sm K fun k => rdg n za I k * rdg n zb k J)) ∧ wr.ownsRow w.heap.size 3 1 u7 M' ((fst14 n F M').map (Value.int .i64)) ∧ Below w.heap.size w wr) (fun _ k _ => n - (intOf k).toNat)
          case atStart => exact ⟨0, Nat.zero_le _, rfl, congrArg (Value.int .i64) (w_small (n := 0) (by decide) (by decide)).symm, HO.out.2.1, HO.out.2.2⟩
          case round =>
            obtain ⟨K, hK, rfl, rfl, hO, hBl⟩ := hrel
            have HM : Hid (M' = I * n + J) := HO.out.1
            have HQ : Hid (wr.ownsRow w.heap.size 3 1 u7 M' ((fst14 n F M').map (Value.int .i64)) ∧ Below w.heap.size w wr) := ⟨hO, hBl⟩
            clear hO hBl HO
            by_cases hkt : K < n
            · obtain ⟨Pi, hPi⟩ : ∃ P, P = I * n := ⟨_, rfl⟩
              obtain ⟨Pk, hPk⟩ : ∃ P, P = K * n := ⟨_, rfl⟩
              obtain ⟨X, hX⟩ : ∃ X, X = Pi + K := ⟨_, rfl⟩
              obtain ⟨Y, hY⟩ : ∃ Y, Y = Pk + J := ⟨_, rfl⟩
              have hPii : (I : Int) * (n : Int) = (Pi : Int) := by rw [hPi]; simp
              have hPki : (K : Int) * (n : Int) = (Pk : Int) := by rw [hPk]; simp
              have hXi : (Pi : Int) + (K : Int) = (X : Int) := by omega
              have hYi : (Pk : Int) + (J : Int) = (Y : Int) := by omega
              have bX : X < N := by rw [hX, hPi, HN.out.1]; exact row_lt hlt hkt
              have bY : Y < N := by rw [hY, hPk, HN.out.1]; exact row_lt hkt hjt
              have hw1 : IntKind.i64.wrap (Pi : Int) = (Pi : Int) := by rw [IntWalk.i64_left]; exact w_small (by omega) (by omega)
              have hw2 : IntKind.i64.wrap (Pk : Int) = (Pk : Int) := by rw [IntWalk.i64_left]; exact w_small (by omega) (by omega)
              have hw3 : IntKind.i64.wrap (X : Int) = (X : Int) := by rw [IntWalk.i64_left]; exact w_small (by omega) (by omega)
              have hw4 : IntKind.i64.wrap (Y : Int) = (Y : Int) := by rw [IntWalk.i64_left]; exact w_small (by omega) (by omega)
              have bXi : (X : Int) < (N : Int) := by omega
              have bYi : (Y : Int) < (N : Int) := by omega
              have HX : Hid (X = I * n + K ∧ Y = K * n + J) := ⟨by rw [hX, hPi], by rw [hY, hPk]⟩
              clear hPi hPk hX hY
              obtain ⟨ba, oa, rfl, _, ha⟩ := (HI.out.1.below HQ.out.2).at (q := X) (by rw [HN.out.2.1]; exact bX)
              have cX := ha X (by rw [HN.out.2.1]; exact bX)
              obtain ⟨bb, ob, rfl, _, hb⟩ := (HI.out.2.below HQ.out.2).at (q := Y) (by rw [HN.out.2.2]; exact bY)
              have cY := hb Y (by rw [HN.out.2.2]; exact bY)
              clear ha hb
              obtain ⟨xv, hxv⟩ : ∃ x, x = nth za X := ⟨_, rfl⟩
              obtain ⟨yv, hyv⟩ : ∃ x, x = nth zb Y := ⟨_, rfl⟩
              rw [← hxv] at cX
              rw [← hyv] at cY
              obtain ⟨S0, hS0⟩ : ∃ s, s = wrap64 (sm K fun k => rdg n za I k * rdg n zb k J) := ⟨_, rfl⟩
              obtain ⟨p1, hx1⟩ : ∃ x, IntKind.i64.wrap (xv * yv) = x := ⟨_, rfl⟩
              obtain ⟨S1, hx2⟩ : ∃ x, IntKind.i64.wrap (S0 + p1) = x := ⟨_, rfl⟩
              have HS : Hid (S1 = wrap64 (sm (K + 1) fun k => rdg n za I k * rdg n zb k J)) := by
                show _ = _
                rw [← hx2, ← hx1, hS0, IntWalk.i64_left, IntWalk.i64_left, w_addl, w_addr, hxv, hyv, HX.out.1, HX.out.2, ← rdg_at hlt hkt, ← rdg_at hkt hjt]
                rfl
              rw [← hS0]
              clear hS0 hxv hyv
              go_wp2_with fail
              have hb0 : Below wr.heap.size wr wr.drew := (Below.refl _ wr).drew
              refine anyC_begin (fun w' => w'.cell? ⟨ba, oa + X, none⟩ = some (.int .i64 xv) ∧ w'.cell? ⟨bb, ob + Y, none⟩ = some (.int .i64 yv)) 20 #[false, false, false, false, false, false, false, false, false, false, false, false, false, false, false, false, false, false, false, false] (by kernel_rfl) rfl rfl ?_
              refine anyC_put 0 27 ?rv0 #[true, false, false, false, false, false, false, false, false, false, false, false, false, false, false, false, false, false, false, false] rfl rfl rfl (by kernel_rfl) (by kernel_rfl) (by kernel_rfl) (fun _ _ _ h => h) ?ry0 (⟨cX, cY⟩) ?rm0
              case ry0 => first | exact Or.inl ⟨by rfl, by intro w'; go_simp; first | done | rfl⟩
              case rm0 =>
              simp only [Act.put, List.setIfInBounds_toArray, List.set_cons_zero, List.set_cons_succ]
              refine anyC_put 1 28 ?rv1 #[true, true, false, false, false, false, false, false, false, false, false, false, false, false, false, false, false, false, false, false] rfl rfl rfl (by kernel_rfl) (by kernel_rfl) (by kernel_rfl) (fun _ _ _ h => h) ?ry1 (⟨cX, cY⟩) ?rm1
              case ry1 => first | exact Or.inl ⟨by rfl, by intro w'; go_simp; first | done | rfl⟩
              case rm1 =>
              simp only [Act.put, List.setIfInBounds_toArray, List.set_cons_zero, List.set_cons_succ]
              refine anyC_put 2 29 ?rv2 #[true, true, true, false, false, false, false, false, false, false, false, false, false, false, false, false, false, false, false, false] rfl rfl rfl (by kernel_rfl) (by kernel_rfl) (by kernel_rfl) (fun _ _ _ h => h) ?ry2 (⟨cX, cY⟩) ?rm2
              case ry2 => first | exact Or.inl ⟨by rfl, by intro w'; go_simp; first | done | rfl⟩
              case rm2 =>
              simp only [Act.put, List.setIfInBounds_toArray, List.set_cons_zero, List.set_cons_succ]
              refine anyC_put 3 30 ?rv3 #[true, true, true, true, false, false, false, false, false, false, false, false, false, false, false, false, false, false, false, false] rfl rfl rfl (by kernel_rfl) (by kernel_rfl) (by kernel_rfl) (fun _ _ _ h => h) ?ry3 (⟨cX, cY⟩) ?rm3
              case ry3 => first | exact Or.inl ⟨by rfl, by intro w'; go_simp; first | done | rfl⟩
              case rm3 =>
              simp only [Act.put, List.setIfInBounds_toArray, List.set_cons_zero, List.set_cons_succ]
              refine anyC_put 4 31 ?rv4 #[true, true, true, true, true, false, false, false, false, false, false, false, false, false, false, false, false, false, false, false] rfl rfl rfl (by kernel_rfl) (by kernel_rfl) (by kernel_rfl) (fun _ _ _ h => h) ?ry4 (⟨cX, cY⟩) ?rm4
              case ry4 => first | exact Or.inl ⟨by rfl, by intro w'; go_simp; first | done | rfl⟩
              case rm4 =>
              simp only [Act.put, List.setIfInBounds_toArray, List.set_cons_zero, List.set_cons_succ]
              refine anyC_put 5 32 ?rv5 #[true, true, true, true, true, true, false, false, false, false, false, false, false, false, false, false, false, false, false, false] rfl rfl rfl (by kernel_rfl) (by kernel_rfl) (by kernel_rfl) (fun _ _ _ h => h) ?ry5 (⟨cX, cY⟩) ?rm5
              case ry5 => first | exact Or.inl ⟨by rfl, by intro w'; go_simp; first | done | rfl⟩
              case rm5 =>
              simp only [Act.put, List.setIfInBounds_toArray, List.set_cons_zero, List.set_cons_succ]
              refine anyC_put 6 33 ?rv6 #[true, true, true, true, true, true, true, false, false, false, false, false, false, false, false, false, false, false, false, false] rfl rfl rfl (by kernel_rfl) (by kernel_rfl) (by kernel_rfl) (fun _ _ _ h => h) ?ry6 (⟨cX, cY⟩) ?rm6
              case ry6 => first | exact Or.inl ⟨by rfl, by intro w'; go_simp; first | done | rfl⟩
              case rm6 =>
              simp only [Act.put, List.setIfInBounds_toArray, List.set_cons_zero, List.set_cons_succ]
              refine anyC_put 7 34 ?rv7 #[true, true, true, true, true, true, true, true, false, false, false, false, false, false, false, false, false, false, false, false] rfl rfl rfl (by kernel_rfl) (by kernel_rfl) (by kernel_rfl) (fun _ _ _ h => h) ?ry7 (⟨cX, cY⟩) ?rm7
              case ry7 => first | exact Or.inl ⟨by rfl, by intro w'; go_simp; first | done | rfl⟩
              case rm7 =>
              simp only [Act.put, List.setIfInBounds_toArray, List.set_cons_zero, List.set_cons_succ]
              refine anyC_take 8 35 ?rv8 #[true, true, true, true, true, true, true, true, true, false, false, false, false, false, false, false, false, false, false, false] rfl rfl rfl (by kernel_rfl) (by kernel_rfl) (by kernel_rfl) (fun _ _ _ h => h) ?ry8 (⟨cX, cY⟩) ?rm8
              case ry8 => first | exact Or.inl ⟨by rfl, by intro w' hw'; (try dsimp only at hw'); go_simp; first | done | rfl⟩
              case rm8 =>
              simp only [Act.put, List.setIfInBounds_toArray, List.set_cons_zero, List.set_cons_succ]
              refine anyC_put 9 36 ?rv9 #[true, true, true, true, true, true, true, true, true, true, false, false, false, false, false, false, false, false, false, false] rfl rfl rfl (by kernel_rfl) (by kernel_rfl) (by kernel_rfl) (fun _ _ _ h => h) ?ry9 (⟨cX, cY⟩) ?rm9
              case ry9 => first | exact Or.inl ⟨by rfl, by intro w'; go_simp; first | done | rfl⟩
              case rm9 =>
              simp only [Act.put, List.setIfInBounds_toArray, List.set_cons_zero, List.set_cons_succ]
              refine anyC_put 10 37 ?rv10 #[true, true, true, true, true, true, true, true, true, true, true, false, false, false, false, false, false, false, false, false] rfl rfl rfl (by kernel_rfl) (by kernel_rfl) (by kernel_rfl) (fun _ _ _ h => h) ?ry10 (⟨cX, cY⟩) ?rm10
              case ry10 => first | exact Or.inl ⟨by rfl, by intro w'; go_simp; first | done | rfl⟩
              case rm10 =>
              simp only [Act.put, List.setIfInBounds_toArray, List.set_cons_zero, List.set_cons_succ]
              refine anyC_put 11 38 ?rv11 #[true, true, true, true, true, true, true, true, true, true, true, true, false, false, false, false, false, false, false, false] rfl rfl rfl (by kernel_rfl) (by kernel_rfl) (by kernel_rfl) (fun _ _ _ h => h) ?ry11 (⟨cX, cY⟩) ?rm11
              case ry11 => first | exact Or.inl ⟨by rfl, by intro w'; go_simp; first | done | rfl⟩
              case rm11 =>
              simp only [Act.put, List.setIfInBounds_toArray, List.set_cons_zero, List.set_cons_succ]
              refine anyC_put 12 39 ?rv12 #[true, true, true, true, true, true, true, true, true, true, true, true, true, false, false, false, false, false, false, false] rfl rfl rfl (by kernel_rfl) (by kernel_rfl) (by kernel_rfl) (fun _ _ _ h => h) ?ry12 (⟨cX, cY⟩) ?rm12
              case ry12 => first | exact Or.inl ⟨by rfl, by intro w'; go_simp; first | done | rfl⟩
              case rm12 =>
              simp only [Act.put, List.setIfInBounds_toArray, List.set_cons_zero, List.set_cons_succ]
              refine anyC_put 13 40 ?rv13 #[true, true, true, true, true, true, true, true, true, true, true, true, true, true, false, false, false, false, false, false] rfl rfl rfl (by kernel_rfl) (by kernel_rfl) (by kernel_rfl) (fun _ _ _ h => h) ?ry13 (⟨cX, cY⟩) ?rm13
              case ry13 => first | exact Or.inl ⟨by rfl, by intro w'; go_simp; first | done | rfl⟩
              case rm13 =>
              simp only [Act.put, List.setIfInBounds_toArray, List.set_cons_zero, List.set_cons_succ]
              refine anyC_put 14 41 ?rv14 #[true, true, true, true, true, true, true, true, true, true, true, true, true, true, true, false, false, false, false, false] rfl rfl rfl (by kernel_rfl) (by kernel_rfl) (by kernel_rfl) (fun _ _ _ h => h) ?ry14 (⟨cX, cY⟩) ?rm14
              case ry14 => first | exact Or.inl ⟨by rfl, by intro w'; go_simp; first | done | rfl⟩
              case rm14 =>
              simp only [Act.put, List.setIfInBounds_toArray, List.set_cons_zero, List.set_cons_succ]
              refine anyC_put 15 42 ?rv15 #[true, true, true, true, true, true, true, true, true, true, true, true, true, true, true, true, false, false, false, false] rfl rfl rfl (by kernel_rfl) (by kernel_rfl) (by kernel_rfl) (fun _ _ _ h => h) ?ry15 (⟨cX, cY⟩) ?rm15
              case ry15 => first | exact Or.inl ⟨by rfl, by intro w'; go_simp; first | done | rfl⟩
              case rm15 =>
              simp only [Act.put, List.setIfInBounds_toArray, List.set_cons_zero, List.set_cons_succ]
              refine anyC_take 16 43 ?rv16 #[true, true, true, true, true, true, true, true, true, true, true, true, true, true, true, true, true, false, false, false] rfl rfl rfl (by kernel_rfl) (by kernel_rfl) (by kernel_rfl) (fun _ _ _ h => h) ?ry16 (⟨cX, cY⟩) ?rm16
              case ry16 => first | exact Or.inl ⟨by rfl, by intro w' hw'; (try dsimp only at hw'); go_simp; first | done | rfl⟩
              case rm16 =>
              simp only [Act.put, List.setIfInBounds_toArray, List.set_cons_zero, List.set_cons_succ]
              refine anyC_put 17 44 ?rv17 #[true, true, true, true, true, true, true, true, true, true, true, true, true, true, true, true, true, true, false, false] rfl rfl rfl (by kernel_rfl) (by kernel_rfl) (by kernel_rfl) (fun _ _ _ h => h) ?ry17 (⟨cX, cY⟩) ?rm17
              case ry17 => first | exact Or.inl ⟨by rfl, by intro w'; go_simp; first | done | rfl⟩
              case rm17 =>
              simp only [Act.put, List.setIfInBounds_toArray, List.set_cons_zero, List.set_cons_succ]
              refine anyC_put 18 45 ?rv18 #[true, true, true, true, true, true, true, true, true, true, true, true, true, true, true, true, true, true, true, false] rfl rfl rfl (by kernel_rfl) (by kernel_rfl) (by kernel_rfl) (fun _ _ _ h => h) ?ry18 (⟨cX, cY⟩) ?rm18
              case ry18 => first | exact Or.inl ⟨by rfl, by intro w'; go_simp; first | done | rfl⟩
              case rm18 =>
              simp only [Act.put, List.setIfInBounds_toArray, List.set_cons_zero, List.set_cons_succ]
              refine anyC_put 19 10 ?rv19 #[true, true, true, true, true, true, true, true, true, true, true, true, true, true, true, true, true, true, true, true] rfl rfl rfl (by kernel_rfl) (by kernel_rfl) (by kernel_rfl) (fun _ _ _ h => h) ?ry19 (⟨cX, cY⟩) ?rm19
              case ry19 => first | exact Or.inl ⟨by rfl, by intro w'; go_simp; first | done | rfl⟩
              case rm19 =>
              simp only [Act.put, List.setIfInBounds_toArray, List.set_cons_zero, List.set_cons_succ]
              refine anyC_done (by kernel_rfl) ?_
              go_wp2_with fail
              exact ⟨⟨K + 1, by omega, by go_num, by rw [HS.out], own_go HQ.out.1 hb0, HQ.out.2.drew⟩, by simp [intOf]; omega⟩
            · obtain rfl : n = K := by omega
              obtain ⟨y, hy⟩ : ∃ y, y = F I J := ⟨_, rfl⟩
              have HFv : Hid (wrap64 (sm n fun k => rdg n za I k * rdg n zb k J) = y) := by show _ = _; rw [hy, HF.out]; rfl
              rw [HFv.out]
              obtain ⟨L, hL⟩ : ∃ L, L = fst14 n F M' := ⟨_, rfl⟩
              have HLn : Hid (L.length = M') := by show _ = _; rw [hL, fst_len]
              have HE : Hid (fst14 n F (M' + 1) = L ++ [y]) := by show _ = _; rw [hL, hy, HM.out, fst_at hjt]
              have bM : M' < N := by rw [HM.out, HN.out.1]; exact row_lt hlt hjt
              have HO2 : Hid (wr.ownsRow w.heap.size 3 1 u7 L.length (L.map (Value.int .i64))) := by rw [HLn.out, hL]; exact HQ.out.1
              have HNw : Hid ((wr.alloc (.cells #[.int .i64 y] 3)).heap[wr.heap.size]? = some (.cells #[.int .i64 y] 3 (0, 0))) := World.alloc_heap_new _ _
              clear hL hy HFv
              go_wp2_with (at_builtin; refine app_list rfl _ _ rfl _ w.heap.size wr.heap.size u7 L y rfl rfl (HO2.out.alloc _) HNw.out (by have := HLn.out; omega) (by have := HQ.out.2.size; simp; omega) ?_; intro g1 gc1 w3 hown1 hB3)
              refine ⟨⟨J + 1, M' + 1, by omega, by go_num, by rw [HM.out]; rfl, ?_, HQ.out.2.trans (((Below.refl _ wr).alloc HQ.out.2.size _).trans hB3)⟩, by simp [intOf]; omega⟩
              rw [HE.out]
              have h := hown1
              rw [HLn.out] at h ⊢
              exact h
        · obtain rfl : n = J := by omega
          go_wp2_with fail
          exact ⟨⟨I + 1, M', by omega, by go_num, by rw [HO.out.1, Nat.succ_mul], HO.out.2.1, HO.out.2.2⟩, by simp [intOf]; omega⟩
    · obtain rfl : n = I := by omega
      obtain ⟨g, cap, e, hNC⟩ := own_cap HO.out.2.1
      have hMN : M = N := by rw [HO.out.1, HN.out.1]
      subst e
      go_wp2_with fail
      go_ret
      exact ⟨g, cap, by rw [fst_len, hMN]; rfl, by rw [hMN] at hNC; exact hNC, HO.out.2.2⟩
end Go.Proofs.YtjaabemlpiafaaaDoor
