/-
  Products of matrices as the program's Inner tells them; a number in the diagonal and 0 elsewhere.
-/
import Derived.BigQuiet
import Derived.Test.YtjaabemlpiafaabDoorMta
import Derived.Test.YtjaabemlpiafaabDoorHold
import Derived.Test.YtjaabemlpiafaabDoorBase
import Derived.Test.YtjaabemlpiafaabDoorPrdq
namespace Go.Proofs.YtjaabemlpiafaabDoor
open Go.RowKit
set_option linter.unusedVariables false

theorem fold_sum {u : Nat → Int} (hu : ∀ i, In64 (u i)) : ∀ n, fdV 1 ((List.range n).map u) = wrap64 (sm n u)
  | 0 => by show (0 : Int) = wrap64 0; exact (w_small (by decide) (by decide)).symm
  | n + 1 => by
    have hl : L64 ((List.range n).map u) := L64.map fun i _ => hu i
    have h1 : L64 [u n] := fun x hx => by rw [List.mem_singleton.1 hx]; exact hu n
    rw [List.range_succ, List.map_append, List.map_cons, List.map_nil, srg13.su.app h1 hl, fdV_one, tv1, fold_sum hu n, w_addl]
    rfl
theorem imm_mm {A B : Nat → Nat → Int} (hA : M64 A) (hB : M64 B) (n i j : Nat) : imm 1 3 n A B i j = wrap64 (mm n A B i j) := by
  unfold imm
  rw [fold_sum (u := fun l => twoV 3 (A i l) (B l j)) (fun l => In64.two (hA i l) (hB l j)) n]
  exact cg.sm fun k _ => by rw [tv3]; exact cg_w _
/-- The cells of a product. -/
def mmL (n : Nat) (dz dz' : List Int) : List Int := cls n fun i j => wrap64 (mm n (rdg n dz) (rdg n dz') i j)
theorem mmL_len (n : Nat) (dz dz' : List Int) : (mmL n dz dz').length = n * n := cls_len n _
theorem cls_64 {n : Nat} {F : Mx} (h : ∀ i j, In64 (F i j)) : ∀ p, In64 (nth (cls n F) p) := fun p => by
  by_cases hp : p < n * n
  · rw [cls_nth F hp]; exact h _ _
  · rw [show nth (cls n F) p = 0 by unfold nth; rw [List.getD_eq_getElem?_getD, List.getElem?_eq_none (by rw [cls_len]; omega)]; rfl]
    unfold In64; decide
theorem w_64 (x : Int) : In64 (wrap64 x) := ⟨w_lo x, w_hi x⟩
theorem mmL_64 (n : Nat) (dz dz' : List Int) : ∀ p, In64 (nth (mmL n dz dz') p) := cls_64 fun i j => w_64 _
theorem rdg_cls {n : Nat} {F : Mx} {i j : Nat} (hi : i < n) (hj : j < n) : rdg n (cls n F) i j = F i j := by
  unfold rdg
  rw [if_pos ⟨hi, hj⟩, cls_at F hi hj]
theorem rdg_at {n : Nat} {dz : List Int} {i j : Nat} (hi : i < n) (hj : j < n) : rdg n dz i j = nth dz (i * n + j) := if_pos ⟨hi, hj⟩
theorem cls_TA {n : Nat} (hn : n ≤ 6) (F : Mx) : cls n F = TA [(n : Int), (n : Int)] fun t => F (nth t 0).toNat (nth t 1).toNat :=
  two_ext (err_sq hn) (by rw [cls_len]; simp [prod]) fun i j hi hj => by
    rw [gm_nth (N := n) rfl]
    exact cls_at F (by omega) (by omega)
theorem sq_flaw {n : Nat} (hn : n ≤ 6) {dz : List Int} (hl : dz.length = n * n) : flawE false [(n : Int), (n : Int)] dz = 0 := flawE_okn (err_sq hn) (by rw [hl]; simp [prod])
theorem sq_inner {n : Nat} (hn : n ≤ 6) {dz dz' : List Int} (hl : dz.length = n * n) (hl' : dz'.length = n * n) (T : ∀ j, In64 (nth dz j)) (T' : ∀ j, In64 (nth dz' j)) :
    inE 1 3 false [(n : Int), (n : Int)] dz false [(n : Int), (n : Int)] dz' = 0 ∧ inS [(n : Int), (n : Int)] [(n : Int), (n : Int)] = [(n : Int), (n : Int)] ∧ inD 1 3 false [(n : Int), (n : Int)] dz false [(n : Int), (n : Int)] dz' = mmL n dz dz' := by
  obtain ⟨h1, h2, h3⟩ := in_two srg13.su srg13.pr (sq_flaw hn hl) (sq_flaw hn hl') (err_sq hn) T T'
  refine ⟨h1, h2, h3.trans ?_⟩
  unfold mmL
  rw [cls_TA hn]
  refine TA_congr (err_sq hn) fun t ht => ?_
  obtain ⟨i, j, rfl, hi, hj⟩ := ins_two ht
  show imm 1 3 n _ _ i j = wrap64 (mm n _ _ i j)
  rw [imm_mm (gm_64 T) (gm_64 T')]
  exact cg.sm fun k hk => by
    rw [gm_nth (N := n) rfl, gm_nth (N := n) rfl, rdg_at (by omega) hk, rdg_at hk (by omega)]
    rfl
theorem ub14 {e : Int} {n : Nat} {S D D' : List Int} {w w' : World} {r : Ending} (h : e = 0 ∧ S = [(n : Int), (n : Int)] ∧ D = D') (hU : UB e false (onl e S) (onl e D) w r w') : OkM n D' w r w' := by
  obtain ⟨rfl, rfl, rfl⟩ := h
  exact hU
theorem minner_ok (HNi : CNi) (n : Nat) (hn : n ≤ 6) (sa : Option Addr) (sc : Nat) (da : Option Addr) (dc : Nat) (dz : List Int) (m : Nat) (hm : dz.length = m) (hl : dz.length = n * n) (sa' : Option Addr) (sc' : Nat) (da' : Option Addr) (dc' : Nat) (dz' : List Int) (m' : Nat) (hm' : dz'.length = m') (hl' : dz'.length = n * n) (w : World)
    (hs : IsC w.heap.size w sa [(n : Int), (n : Int)] sc) (hd : IsInts w.heap.size w da dz) (T : ∀ j, In64 (nth dz j)) (hs' : IsC w.heap.size w sa' [(n : Int), (n : Int)] sc') (hd' : IsInts w.heap.size w da' dz') (T' : ∀ j, In64 (nth dz' j)) :
    Calls Tryd.prog 9 #[.int .i64 1, .int .i64 3, .agg #[.bool false, .slice sa 2 sc, .slice da m dc], .agg #[.bool false, .slice sa' 2 sc', .slice da' m' dc']] w (OkM n (mmL n dz dz') w) := by
  have h36 : n * n ≤ 6 * 6 := Nat.mul_le_mul hn hn
  subst hm hm'
  exact (HNi 1 3 false sa sc [(n : Int), (n : Int)] da dc dz false sa' sc' [(n : Int), (n : Int)] da' dc' dz' w (by unfold In64; decide) (by unfold In64; decide) (by simp) (by omega) (by simp) (by omega) hs hd hs' hd' T T').mono fun r w' hU => ub14 (sq_inner hn hl hl' T T') hU
/-- A number in the diagonal. -/
def dgm (d : Int) : Mx := fun i j => if i = j then d else 0
set_option maxRecDepth 100000 in
set_option maxHeartbeats 2000000 in
theorem diag_yes (n : Nat) (hn : n ≤ 6) (d : Int) (sa : Option Addr) (sc : Nat) (da : Option Addr) (dc : Nat) (D : List Int) (m : Nat) (hm : D.length = m) (hD : D = cls n (dgm d)) (w : World) (hs : IsInts w.heap.size w sa [(n : Int), (n : Int)]) (hd : IsInts w.heap.size w da D) :
    Calls Tryd.prog 11 #[.agg #[.bool false, .slice sa 2 sc, .slice da m dc], .int .i64 (n : Nat), .int .i64 d] w fun e w' => e = .returned (.bool true) ∧ Below w.heap.size w w' := by
  obtain ⟨N, hN⟩ : ∃ N, N = n * n := ⟨_, rfl⟩
  have hmN : m = N := by rw [← hm, hD, cls_len, hN]
  subst hmN
  have h36 : m ≤ 36 := by have : n * n ≤ 6 * 6 := Nat.mul_le_mul hn hn; omega
  have hmul : (n : Int) * (n : Int) = (m : Int) := by rw [hN]; simp
  obtain ⟨w0, HW⟩ : ∃ w0, Hid (w0 = (w.alloc (.cells #[.bool false, .slice sa 2 sc, .slice da m dc] 24)).alloc (.cells #[.int .i64 (n : Int), .int .i64 (n : Int)] 3)) := ⟨_, rfl⟩
  have HB0 : Hid (Below w.heap.size w w0) := by rw [HW.out]; exact ((Below.refl _ w).alloc (Nat.le_refl _) _).alloc (by simp) _
  have HA : Hid (Abx w0 w.heap.size (.bool false) (.slice sa 2 sc) (.slice da m dc)) := by rw [HW.out]; exact (Abx.new w _ _ _).al _
  have HL : Hid (MidC (w.heap.size + 1) (w.heap.size + 1 + 1) w0 (some ⟨w.heap.size + 1, 0, none⟩) [(n : Int), (n : Int)] 2) := by
    have hl := lit_mid (w.alloc (.cells #[.bool false, .slice sa 2 sc, .slice da m dc] 24)) 3 [(n : Int), (n : Int)] 2 rfl
    rw [World.size_alloc] at hl
    rw [HW.out]
    exact hl
  have hsz : w.heap.size + 1 + 1 ≤ w0.heap.size := by rw [HW.out]; simp
  have hq := ints_any sa sc [(n : Int), (n : Int)] (some ⟨w.heap.size + 1, 0, none⟩) 2 [(n : Int), (n : Int)] (by simp) w0.heap.size w0 ((hs.below HB0.out).mono HB0.out.size) (HL.out.is hsz).1
  rw [eqB_true rfl] at hq
  have HI : Hid (IsInts w.heap.size w da D) := hd
  have HN : Hid (D.length = m ∧ m = n * n ∧ ∀ p, p < m → nth D p = dgm d (p / n) (p % n)) := ⟨hm, hN, fun p hp => by rw [hD]; exact cls_nth _ (by omega)⟩
  have p1 := (Abx.new w (.bool false) (.slice sa 2 sc) (.slice da m dc)).c1
  clear hs hd hm hN hD HL
  go_enter Tryd.func11, Tryd.ntmps11
  go_wp2_with fail
  rw [← HW.out]
  refine hq.mono ?_
  rintro e v1 ⟨rfl, hv1⟩
  have HB1 : Hid (Below w.heap.size w v1) := HB0.out.trans (hv1.mono HB0.out.size)
  have HA1 : Hid (Abx v1 w.heap.size (.bool false) (.slice sa 2 sc) (.slice da m dc)) := HA.out.go hv1
  have q2 := HA1.out.c2
  clear hv1 hq HA HB0 HW hsz p1
  go_wp2_with fail
  clear q2
  go_loopw [6, 8] (fun r i wr => r = .bool false ∧ ∃ t : Nat, t ≤ m ∧ i = .int .i64 t ∧ Abx wr w.heap.size (.bool false) (.slice sa 2 sc) (.slice da m dc) ∧ Below w.heap.size w wr) (fun _ i _ => m - (intOf i).toNat)
  case atStart => exact ⟨rfl, 0, Nat.zero_le _, rfl, HA1.out, HB1.out⟩
  case round =>
    clear HA1 HB1
    obtain ⟨rfl, t, ht, rfl, hQ⟩ := hrel
    have HQ : Hid (Abx wr w.heap.size (.bool false) (.slice sa 2 sc) (.slice da m dc) ∧ Below w.heap.size w wr) := hQ
    clear hQ
    by_cases hlt : t < m
    · obtain ⟨d1, d2, d3⟩ := div_row (n := n) (t := t) (by rw [← HN.out.2.1]; exact hlt)
      obtain ⟨P, hP⟩ : ∃ P, P = t / n := ⟨_, rfl⟩
      obtain ⟨R, hR⟩ : ∃ R, R = t % n := ⟨_, rfl⟩
      have n0 : ¬ n = 0 := by omega
      have hq : (t : Int).tdiv (n : Int) = (P : Int) := by rw [hP]; rfl
      have hr : (t : Int).tmod (n : Int) = (R : Int) := by rw [hR]; rfl
      have HV : Hid (nth D t = dgm d P R) := by show _ = _; rw [HN.out.2.2 t hlt, hP, hR]
      rw [← hP] at d1
      have hwp : IntKind.i64.wrap (P : Int) = (P : Int) := by rw [IntWalk.i64_left]; exact w_small (by omega) (by omega)
      clear hP hR d1 d2 d3
      obtain ⟨bd, od, rfl, hbd, hcd⟩ := (HI.out.below HQ.out.2).at (q := t) (by rw [HN.out.1]; exact hlt)
      have HCD : Hid (∀ v, Below wr.heap.size wr v → v.cell? ⟨bd, od + t, none⟩ = some (.int .i64 (nth D t)) ∧ Abx v w.heap.size (.bool false) (.slice sa 2 sc) (.slice (some ⟨bd, od, none⟩) m dc)) := fun v hv => ⟨((hv.cell (p := ⟨bd, od + t, none⟩) (by have := HQ.out.2.size; show bd < _; omega))).trans (hcd t (by rw [HN.out.1]; exact hlt)), HQ.out.1.go hv⟩
      clear hcd
      have hb0 : Below wr.heap.size wr wr.drew := (Below.refl _ wr).drew
      by_cases e : P = R
      · have tpr : ((P : Int) == (R : Int)) = true := by rw [e]; simp
        have HV2 : Hid (nth D t = d) := by show _ = _; rw [HV.out]; exact if_pos e
        clear e HV
        go_wp2_with fail
        refine anyC_begin (fun w' => True) 7 #[false, false, false, false, false, false, false] (by kernel_rfl) rfl rfl ?_
        refine anyC_put 0 34 ?rv0 #[true, false, false, false, false, false, false] rfl rfl rfl (by kernel_rfl) (by kernel_rfl) (by kernel_rfl) (fun _ _ _ h => h) ?ry0 (trivial) ?rm0
        case ry0 => first | exact Or.inl ⟨by rfl, by intro w'; go_simp; first | done | rfl⟩
        case rm0 =>
        simp only [Act.put, List.setIfInBounds_toArray, List.set_cons_zero, List.set_cons_succ]
        refine anyC_put 1 35 ?rv1 #[true, true, false, false, false, false, false] rfl rfl rfl (by kernel_rfl) (by kernel_rfl) (by kernel_rfl) (fun _ _ _ h => h) ?ry1 (trivial) ?rm1
        case ry1 => first | exact Or.inl ⟨by rfl, by intro w'; go_simp; first | done | rfl⟩
        case rm1 =>
        simp only [Act.put, List.setIfInBounds_toArray, List.set_cons_zero, List.set_cons_succ]
        refine anyC_put 2 36 ?rv2 #[true, true, true, false, false, false, false] rfl rfl rfl (by kernel_rfl) (by kernel_rfl) (by kernel_rfl) (fun _ _ _ h => h) ?ry2 (trivial) ?rm2
        case ry2 => first | exact Or.inl ⟨by rfl, by intro w'; go_simp; first | done | rfl⟩
        case rm2 =>
        simp only [Act.put, List.setIfInBounds_toArray, List.set_cons_zero, List.set_cons_succ]
        refine anyC_put 3 37 ?rv3 #[true, true, true, true, false, false, false] rfl rfl rfl (by kernel_rfl) (by kernel_rfl) (by kernel_rfl) (fun _ _ _ h => h) ?ry3 (trivial) ?rm3
        case ry3 => first | exact Or.inl ⟨by rfl, by intro w'; go_simp; first | done | rfl⟩
        case rm3 =>
        simp only [Act.put, List.setIfInBounds_toArray, List.set_cons_zero, List.set_cons_succ]
        refine anyC_put 4 38 ?rv4 #[true, true, true, true, true, false, false] rfl rfl rfl (by kernel_rfl) (by kernel_rfl) (by kernel_rfl) (fun _ _ _ h => h) ?ry4 (trivial) ?rm4
        case ry4 => first | exact Or.inl ⟨by rfl, by intro w'; go_simp; first | done | rfl⟩
        case rm4 =>
        simp only [Act.put, List.setIfInBounds_toArray, List.set_cons_zero, List.set_cons_succ]
        refine anyC_put 5 39 ?rv5 #[true, true, true, true, true, true, false] rfl rfl rfl (by kernel_rfl) (by kernel_rfl) (by kernel_rfl) (fun _ _ _ h => h) ?ry5 (trivial) ?rm5
        case ry5 => first | exact Or.inl ⟨by rfl, by intro w'; go_simp; first | done | rfl⟩
        case rm5 =>
        simp only [Act.put, List.setIfInBounds_toArray, List.set_cons_zero, List.set_cons_succ]
        refine anyC_put 6 40 ?rv6 #[true, true, true, true, true, true, true] rfl rfl rfl (by kernel_rfl) (by kernel_rfl) (by kernel_rfl) (fun _ _ _ h => h) ?ry6 (trivial) ?rm6
        case ry6 => first | exact Or.inl ⟨by rfl, by intro w'; go_simp; first | done | rfl⟩
        case rm6 =>
        simp only [Act.put, List.setIfInBounds_toArray, List.set_cons_zero, List.set_cons_succ]
        refine anyC_done (by kernel_rfl) ?_
        have cD := (HCD.out _ hb0).1
        rw [HV2.out] at cD
        have cA := (HCD.out _ hb0).2.c2
        go_wp2_with fail
        exact ⟨⟨rfl, t + 1, by omega, by go_num, HQ.out.1.dr, HQ.out.2.drew⟩, by simp [intOf]; omega⟩
      · have tpr : ((P : Int) == (R : Int)) = false := by simp; omega
        have HV2 : Hid (nth D t = 0) := by show _ = _; rw [HV.out]; exact if_neg e
        clear e HV
        go_wp2_with fail
        refine anyC_begin (fun w' => True) 7 #[false, false, false, false, false, false, false] (by kernel_rfl) rfl rfl ?_
        refine anyC_put 0 34 ?rv7 #[true, false, false, false, false, false, false] rfl rfl rfl (by kernel_rfl) (by kernel_rfl) (by kernel_rfl) (fun _ _ _ h => h) ?ry7 (trivial) ?rm7
        case ry7 => first | exact Or.inl ⟨by rfl, by intro w'; go_simp; first | done | rfl⟩
        case rm7 =>
        simp only [Act.put, List.setIfInBounds_toArray, List.set_cons_zero, List.set_cons_succ]
        refine anyC_put 1 35 ?rv8 #[true, true, false, false, false, false, false] rfl rfl rfl (by kernel_rfl) (by kernel_rfl) (by kernel_rfl) (fun _ _ _ h => h) ?ry8 (trivial) ?rm8
        case ry8 => first | exact Or.inl ⟨by rfl, by intro w'; go_simp; first | done | rfl⟩
        case rm8 =>
        simp only [Act.put, List.setIfInBounds_toArray, List.set_cons_zero, List.set_cons_succ]
        refine anyC_put 2 36 ?rv9 #[true, true, true, false, false, false, false] rfl rfl rfl (by kernel_rfl) (by kernel_rfl) (by kernel_rfl) (fun _ _ _ h => h) ?ry9 (trivial) ?rm9
        case ry9 => first | exact Or.inl ⟨by rfl, by intro w'; go_simp; first | done | rfl⟩
        case rm9 =>
        simp only [Act.put, List.setIfInBounds_toArray, List.set_cons_zero, List.set_cons_succ]
        refine anyC_put 3 37 ?rv10 #[true, true, true, true, false, false, false] rfl rfl rfl (by kernel_rfl) (by kernel_rfl) (by kernel_rfl) (fun _ _ _ h => h) ?ry10 (trivial) ?rm10
        case ry10 => first | exact Or.inl ⟨by rfl, by intro w'; go_simp; first | done | rfl⟩
        case rm10 =>
        simp only [Act.put, List.setIfInBounds_toArray, List.set_cons_zero, List.set_cons_succ]
        refine anyC_put 4 38 ?rv11 #[true, true, true, true, true, false, false] rfl rfl rfl (by kernel_rfl) (by kernel_rfl) (by kernel_rfl) (fun _ _ _ h => h) ?ry11 (trivial) ?rm11
        case ry11 => first | exact Or.inl ⟨by rfl, by intro w'; go_simp; first | done | rfl⟩
        case rm11 =>
        simp only [Act.put, List.setIfInBounds_toArray, List.set_cons_zero, List.set_cons_succ]
        refine anyC_put 5 39 ?rv12 #[true, true, true, true, true, true, false] rfl rfl rfl (by kernel_rfl) (by kernel_rfl) (by kernel_rfl) (fun _ _ _ h => h) ?ry12 (trivial) ?rm12
        case ry12 => first | exact Or.inl ⟨by rfl, by intro w'; go_simp; first | done | rfl⟩
        case rm12 =>
        simp only [Act.put, List.setIfInBounds_toArray, List.set_cons_zero, List.set_cons_succ]
        refine anyC_put 6 40 ?rv13 #[true, true, true, true, true, true, true] rfl rfl rfl (by kernel_rfl) (by kernel_rfl) (by kernel_rfl) (fun _ _ _ h => h) ?ry13 (trivial) ?rm13
        case ry13 => first | exact Or.inl ⟨by rfl, by intro w'; go_simp; first | done | rfl⟩
        case rm13 =>
        simp only [Act.put, List.setIfInBounds_toArray, List.set_cons_zero, List.set_cons_succ]
        refine anyC_done (by kernel_rfl) ?_
        have cD := (HCD.out _ hb0).1
        rw [HV2.out] at cD
        have cA := (HCD.out _ hb0).2.c2
        go_wp2_with fail
        exact ⟨⟨rfl, t + 1, by omega, by go_num, HQ.out.1.dr, HQ.out.2.drew⟩, by simp [intOf]; omega⟩
    · obtain rfl : t = m := by omega
      go_wp2_with fail
      go_ret
      exact ⟨rfl, HQ.out.2⟩
end Go.Proofs.YtjaabemlpiafaabDoor
