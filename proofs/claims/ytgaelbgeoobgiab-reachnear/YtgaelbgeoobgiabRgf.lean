/-
  The program's relation with each way as a step.
-/
import Derived.Deep.DeepCutAuto
import Derived.Test.YtgaelbgeoobgiabRga
import Derived.Test.YtgaelbgeoobgiabRgw
import Derived.Test.YtgaelbgeoobgiabBase
namespace Go.Proofs.Ytgaelbgeoobgiab
open Go.RowKit
set_option linter.unusedVariables false

/-- Those of both, so far. -/
def wth (T U : Nat → Bool) (k : Nat) : Nat → Bool := fun a => if a < k then T a || U a else T a
theorem wth_zero (T U : Nat → Bool) : wth T U 0 = T := by funext a; unfold wth; rw [if_neg (Nat.not_lt_zero _)]
theorem wth_next (T U : Nat → Bool) (k : Nat) : ptt (wth T U k) k (T k || U k) = wth T U (k + 1) := by
  funext a
  unfold ptt wth
  by_cases e : a = k
  · subst e; rw [if_pos rfl, if_pos (Nat.lt_succ_self a)]
  · rw [if_neg e]
    by_cases h : a < k
    · rw [if_pos h, if_pos (by omega)]
    · rw [if_neg h, if_neg (by omega)]
theorem wth_at (T U : Nat → Bool) (k : Nat) : wth T U k k = T k := by unfold wth; rw [if_neg (Nat.lt_irrefl k)]
theorem wth_all (T U : Nat → Bool) : oft (wth T U 24) = oft (fun a => T a || U a) := oft_congr fun j hj => by unfold wth; rw [if_pos hj]
theorem idxT (U : Nat → Bool) {t : Nat} (ht : t < 24) (w : World) : (Instr.index 36 (.agg (oft U)) (.int .i64 (t : Nat))).run Try.prog w = .ok (.bool (U t)) w := by
  have hc := oft_at U ht
  simp [Instr.index, run_underlying Try.underlying36, asIntOf, go_sem, part, hc]
  intro h
  omega
set_option maxRecDepth 100000 in
set_option maxHeartbeats 2000000 in
theorem with_any (T U : Nat → Bool) (w : World) :
    Calls Try.prog 14 #[.agg (oft T), .agg (oft U)] w fun e w' => e = .returned (.agg (oft fun a => T a || U a)) ∧ Below w.heap.size w w' := by
  obtain ⟨w0, HW⟩ : ∃ w0, Hid (w0 = ((w.alloc (.cells (oft T) 36)).alloc (.cells (oft U) 36)).alloc (.cells (oft fun _ => false) 36)) := ⟨_, rfl⟩
  have HQ0 : Hid (Tb w0 w.heap.size (wth T U 0) ∧ Tb w0 (w.heap.size + 1) U ∧ Tb w0 (w.heap.size + 1 + 1) (fun _ => false) ∧ Below w.heap.size w w0) := by
    show _ ∧ _
    rw [HW.out, wth_zero]
    have h2 := Tb.new (w.alloc (.cells (oft T) 36)) U
    have h3 := Tb.new ((w.alloc (.cells (oft T) 36)).alloc (.cells (oft U) 36)) fun _ => false
    simp only [World.size_alloc] at h2 h3
    exact ⟨((Tb.new w T).al _).al _, h2.al _, h3, (((Below.refl _ w).alloc (Nat.le_refl _) _).alloc (by simp) _).alloc (by simp; omega) _⟩
  go_enter Try.func14, Try.ntmps14
  go_upto_region 1 with fail
  rw [oft_zero, ← HW.out]
  clear HW
  go_wp2_with (refine wpl_ldt (w.heap.size + 1) U _ HQ0.out.2.1 rfl rfl rfl ?_)
  go_loopw [8] (fun i wr => ∃ t : Nat, t ≤ 24 ∧ i = .int .i64 t ∧ Tb wr w.heap.size (wth T U t) ∧ Tb wr (w.heap.size + 1) U ∧ Tb wr (w.heap.size + 1 + 1) (fun _ => false) ∧ Below w.heap.size w wr) (fun i _ => 24 - (intOf i).toNat)
  case atStart => exact ⟨0, Nat.zero_le _, rfl, HQ0.out⟩
  case round =>
    clear HQ0
    obtain ⟨t, ht, rfl, hQ⟩ := hrel
    have HQ : Hid (Tb wr w.heap.size (wth T U t) ∧ Tb wr (w.heap.size + 1) U ∧ Tb wr (w.heap.size + 1 + 1) (fun _ => false) ∧ Below w.heap.size w wr) := hQ
    clear hQ
    by_cases hlt : t < 24
    · have iT : (t : Int) < 24 := by omega
      have hU := idxT U hlt
      obtain ⟨y, hy⟩ : ∃ y, y = U t := ⟨_, rfl⟩
      obtain ⟨x, hx⟩ : ∃ x, x = T t := ⟨_, rfl⟩
      rw [← hy] at hU
      have c0 := HQ.out.1.cell hlt
      rw [wth_at, ← hx] at c0
      have f0 := HQ.out.1.fr t
      have HX : Hid (x = T t ∧ y = U t) := ⟨hx, hy⟩
      clear hx hy
      have HN : Hid (∀ z : Bool, z = (x || y) → (Tb (wr.setCell ⟨w.heap.size, t, none⟩ (.bool z)) w.heap.size (wth T U (t + 1)) ∧ Tb (wr.setCell ⟨w.heap.size, t, none⟩ (.bool z)) (w.heap.size + 1) U ∧ Tb (wr.setCell ⟨w.heap.size, t, none⟩ (.bool z)) (w.heap.size + 1 + 1) (fun _ => false) ∧ Below w.heap.size w (wr.setCell ⟨w.heap.size, t, none⟩ (.bool z)))) := fun z hz => by
        rw [← wth_next, ← HX.out.1, ← HX.out.2, ← hz]
        exact ⟨HQ.out.1.put hlt z, HQ.out.2.1.ot (by show w.heap.size + 1 ≠ w.heap.size; omega) _, HQ.out.2.2.1.ot (by show w.heap.size + 1 + 1 ≠ w.heap.size; omega) _, HQ.out.2.2.2.setCell (p := ⟨w.heap.size, t, none⟩) (Nat.le_refl _) _⟩
      clear HQ HX
      cases x
      · go_wp2_with fail
        exact ⟨⟨t + 1, by omega, by go_num, HN.out y (by cases y <;> rfl)⟩, by simp [intOf]; omega⟩
      · go_wp2_with fail
        exact ⟨⟨t + 1, by omega, by go_num, HN.out true rfl⟩, by simp [intOf]; omega⟩
    · obtain rfl : t = 24 := by omega
      have HE : Hid (Tb (wr.setRow (w.heap.size + 1 + 1) (oft (wth T U 24))) (w.heap.size + 1 + 1) (wth T U 24)) := HQ.out.2.2.1.row
      go_wp2_with (first | refine wpl_ldt w.heap.size (wth T U 24) _ HQ.out.1 rfl rfl rfl ?_ | refine wpl_stt (w.heap.size + 1 + 1) _ (wth T U 24) _ _ HQ.out.2.2.1 rfl rfl rfl rfl rfl ?_)
      refine bodyPost_ret (v := .agg (oft (wth T U 24))) ?_ rfl ⟨by rw [wth_all], bel_rw HQ.out.2.2.2 (by omega)⟩
      exact results_cell_row rfl _ _ (w.heap.size + 1 + 1) 36 _ (0, 0) _ rfl HE.out Try.underlying36 rfl (by rw [oft_size]; exact Try.infoT)
theorem ws_ofr (A : Rl) : ofr (ws A 24) = ofr (clB A 24) := ofr_congr fun i hi j hj => ws_all hi hj
theorem wsi_put {S : Rl} {v i : Nat} (h : S i v = true) : ptw (wsi S v i) i (fun a => wsi S v i i a || wsi S v i v a) = wsi S v (i + 1) := wsi_yes h
set_option maxRecDepth 100000 in
set_option maxHeartbeats 2000000 in
theorem closed_any (A : Rl) (w : World) :
    Calls Try.prog 11 #[.agg (ofr A)] w fun e w' => e = .returned (.agg (ofr (clB A 24))) ∧ Below w.heap.size w w' := by
  obtain ⟨w0, HW⟩ : ∃ w0, Hid (w0 = (w.alloc (.cells (ofr A) 38)).alloc (.cells (ofr fun _ _ => false) 38)) := ⟨_, rfl⟩
  have HQ0 : Hid (Rb w0 w.heap.size (ws A 0) ∧ Rb w0 (w.heap.size + 1) (fun _ _ => false) ∧ Below w.heap.size w w0) := by
    show _ ∧ _
    rw [HW.out]
    have h2 := Rb.new (w.alloc (.cells (ofr A) 38)) fun _ _ => false
    simp only [World.size_alloc] at h2
    exact ⟨(Rb.new w A).al _, h2, ((Below.refl _ w).alloc (Nat.le_refl _) _).alloc (by simp) _⟩
  have hzR := zeroR
  go_enter Try.func11, Try.ntmps11
  go_upto_region 1 with fail
  rw [← HW.out]
  clear HW hzR
  go_wp2_with fail
  go_loopw [5] (fun i wr => ∃ v : Nat, v ≤ 24 ∧ i = .int .i64 v ∧ Rb wr w.heap.size (ws A v) ∧ Rb wr (w.heap.size + 1) (fun _ _ => false) ∧ Below w.heap.size w wr) (fun i _ => 24 - (intOf i).toNat)
  case atStart => exact ⟨0, Nat.zero_le _, rfl, HQ0.out⟩
  case round =>
    clear HQ0
    obtain ⟨v, hv, rfl, hQ⟩ := hrel
    by_cases hlt : v < 24
    · have iV : (v : Int) < 24 := by omega
      obtain ⟨S, hS⟩ : ∃ S, S = ws A v := ⟨_, rfl⟩
      have HS : Hid (S = ws A v) := hS
      have HQ : Hid (Rb wr w.heap.size (wsi S v 0) ∧ Rb wr (w.heap.size + 1) (fun _ _ => false) ∧ Below w.heap.size w wr) := by
        show _ ∧ _
        rw [wsi_zero, hS]
        exact hQ
      clear hQ hS
      go_wp2_with fail
      go_loopw [8] (fun i wr => ∃ t : Nat, t ≤ 24 ∧ i = .int .i64 t ∧ Rb wr w.heap.size (wsi S v t) ∧ Rb wr (w.heap.size + 1) (fun _ _ => false) ∧ Below w.heap.size w wr) (fun i _ => 24 - (intOf i).toNat)
      case atStart => exact ⟨0, Nat.zero_le _, rfl, HQ.out⟩
      case round =>
        clear HQ
        obtain ⟨t, ht, rfl, hQ⟩ := hrel
        have HQ : Hid (Rb wr w.heap.size (wsi S v t) ∧ Rb wr (w.heap.size + 1) (fun _ _ => false) ∧ Below w.heap.size w wr) := hQ
        clear hQ
        by_cases htl : t < 24
        · have iT : (t : Int) < 24 := by omega
          have c1 := HQ.out.1.cell htl hlt
          rw [wsi_at] at c1
          obtain ⟨x, hx⟩ : ∃ x, S t v = x := ⟨_, rfl⟩
          rw [hx] at c1
          have HX : Hid (S t v = x) := hx
          clear hx
          cases x
          · have HQ6 : Hid (Rb wr w.heap.size (wsi S v (t + 1)) ∧ Rb wr (w.heap.size + 1) (fun _ _ => false) ∧ Below w.heap.size w wr) := by
              show _ ∧ _
              rw [← wsi_no HX.out]
              exact HQ.out
            clear HQ HX
            go_wp2_with fail
            exact ⟨⟨t + 1, by omega, by go_num, HQ6.out⟩, by simp [intOf]; omega⟩
          · obtain ⟨B, hB⟩ : ∃ B, B = wsi S v t := ⟨_, rfl⟩
            have HV : Hid (ptw B t (fun a => B t a || B v a) = wsi S v (t + 1)) := by rw [hB]; exact wsi_put HX.out
            rw [← hB] at HQ
            clear hB HX
            have HR : Hid (Rb wr.drew w.heap.size B) := HQ.out.1
            have HT : Hid (t < 24 ∧ v < 24) := ⟨htl, hlt⟩
            go_wp2_with fail
            refine anyT_begin 8 (fun w' => Rb w' w.heap.size B) 10 #[false, false, false, false, false, false, false, false, false, false] (by kernel_rfl) rfl rfl ?_
            refine anyT_put 0 16 ?rv0 #[true, false, false, false, false, false, false, false, false, false] rfl rfl rfl (by kernel_rfl) (by kernel_rfl) (by kernel_rfl) (fun _ _ _ h => h) (by decide) ?ry0 (fun _ => HR.out) ?rm0
            case ry0 => first | exact Or.inl ⟨by rfl, by intro w'; go_simp; first | done | rfl⟩
            case rm0 =>
            simp only [Act.put, List.setIfInBounds_toArray, List.set_cons_zero, List.set_cons_succ]
            refine anyT_put 1 17 ?rv1 #[true, true, false, false, false, false, false, false, false, false] rfl rfl rfl (by kernel_rfl) (by kernel_rfl) (by kernel_rfl) (fun _ _ _ h => h) (by decide) ?ry1 (fun _ => HR.out) ?rm1
            case ry1 => first | exact Or.inl ⟨by rfl, by intro w'; go_simp; first | done | rfl⟩
            case rm1 =>
            simp only [Act.put, List.setIfInBounds_toArray, List.set_cons_zero, List.set_cons_succ]
            refine anyT_put 2 18 ?rv2 #[true, true, true, false, false, false, false, false, false, false] rfl rfl rfl (by kernel_rfl) (by kernel_rfl) (by kernel_rfl) (fun _ _ _ h => h) (by decide) ?ry2 (fun _ => HR.out) ?rm2
            case ry2 => first | exact Or.inl ⟨by rfl, by intro w'; go_simp; first | done | rfl⟩
            case rm2 =>
            simp only [Act.put, List.setIfInBounds_toArray, List.set_cons_zero, List.set_cons_succ]
            refine anyT_take 3 19 (.agg (oft (B t))) #[true, true, true, true, false, false, false, false, false, false] rfl rfl rfl (by kernel_rfl) (by kernel_rfl) (by kernel_rfl) (fun _ _ _ h => h) (by kernel_rfl) (by decide) (by kernel_rfl) ?ry3 (HR.out) ?rm3
            case ry3 => exact yrow w.heap.size B t HT.out.1 (.tmp 18) (by rfl) (by rfl) (by rfl) (by intro _ h; exact h)
            case rm3 =>
            simp only [Act.put, List.setIfInBounds_toArray, List.set_cons_zero, List.set_cons_succ]
            refine anyT_put 4 20 ?rv4 #[true, true, true, true, true, false, false, false, false, false] rfl rfl rfl (by kernel_rfl) (by kernel_rfl) (by kernel_rfl) (fun _ _ _ h => h) (by decide) ?ry4 (fun _ => HR.out) ?rm4
            case ry4 => first | exact Or.inl ⟨by rfl, by intro w'; go_simp; first | done | rfl⟩
            case rm4 =>
            simp only [Act.put, List.setIfInBounds_toArray, List.set_cons_zero, List.set_cons_succ]
            refine anyT_put 5 21 ?rv5 #[true, true, true, true, true, true, false, false, false, false] rfl rfl rfl (by kernel_rfl) (by kernel_rfl) (by kernel_rfl) (fun _ _ _ h => h) (by decide) ?ry5 (fun _ => HR.out) ?rm5
            case ry5 => first | exact Or.inl ⟨by rfl, by intro w'; go_simp; first | done | rfl⟩
            case rm5 =>
            simp only [Act.put, List.setIfInBounds_toArray, List.set_cons_zero, List.set_cons_succ]
            refine anyT_take 6 22 (.agg (oft (B v))) #[true, true, true, true, true, true, true, false, false, false] rfl rfl rfl (by kernel_rfl) (by kernel_rfl) (by kernel_rfl) (fun _ _ _ h => h) (by kernel_rfl) (by decide) (by kernel_rfl) ?ry6 (HR.out) ?rm6
            case ry6 => exact yrow w.heap.size B v HT.out.2 (.tmp 21) (by rfl) (by rfl) (by rfl) (by intro _ h; exact h)
            case rm6 =>
            simp only [Act.put, List.setIfInBounds_toArray, List.set_cons_zero, List.set_cons_succ]
            refine anyT_one 7 #[true, true, true, true, true, true, true, true, false, false] (by kernel_rfl) rfl rfl (fun K hK => ?_)
            go_simp
            go_wp2_with (go_at_call 14; refine (with_any (B t) (B v) _).mono ?_; rintro e y1 ⟨rfl, hB1⟩; have HY : Hid (Rb y1 w.heap.size B ∧ Rb y1 (w.heap.size + 1) (fun _ _ => false) ∧ Below w.heap.size w y1) := ⟨HR.out.go hB1, HQ.out.2.1.dr.go hB1, HQ.out.2.2.drew.trans (hB1.mono HQ.out.2.2.drew.size)⟩; clear hB1 HR HQ)
            refine hK.out _ _ (fun _ => HY.out.1) ?_
            clear hK K
            refine anyT_one 8 #[true, true, true, true, true, true, true, true, true, false] (by kernel_rfl) rfl rfl (fun K hK => ?_)
            go_simp
            refine hK.out _ _ (fun h => absurd h (by decide)) ?_
            clear hK K
            refine anyT_one 9 #[true, true, true, true, true, true, true, true, true, true] (by kernel_rfl) rfl rfl (fun K hK => ?_)
            rw [if_pos (by rfl)]
            refine wp_strow w.heap.size B t HT.out.1 (fun a => B t a || B v a) (.tmp 24) (.tmp 23) HY.out.1 rfl rfl rfl ?_
            refine hK.out _ _ (fun h => absurd h (by decide)) ?_
            clear hK K
            refine anyT_done (by kernel_rfl) ?_
            obtain ⟨w6, HW6⟩ : ∃ w6, Hid (w6 = (y1.setCells w.heap.size (t * 24) (oft (fun a => B t a || B v a)).toList)) := ⟨_, rfl⟩
            rw [← HW6.out]
            have HQ6 : Hid (Rb w6 w.heap.size (wsi S v (t + 1)) ∧ Rb w6 (w.heap.size + 1) (fun _ _ => false) ∧ Below w.heap.size w w6) := by
              show _ ∧ _
              rw [HW6.out, ← HV.out]
              exact ⟨HY.out.1.putw HT.out.1 _, HY.out.2.1.of (heap_cells _ (by omega) _ _ _), bel_cells (Nat.le_refl _) _ _ _ HY.out.2.2⟩
            clear HW6 HY HV c1
            go_wp2_with fail
            exact ⟨⟨t + 1, by omega, by go_num, HQ6.out⟩, by simp [intOf]; omega⟩
        · obtain rfl : t = 24 := by omega
          go_wp2_with fail
          exact ⟨⟨v + 1, by omega, by go_num, HQ.out.1.congr (fun i hi j hj => by rw [HS.out]; exact wsi_end hi), HQ.out.2⟩, by simp [intOf]; omega⟩
    · obtain rfl : v = 24 := by omega
      have HQ : Hid (Rb wr w.heap.size (ws A 24) ∧ Rb wr (w.heap.size + 1) (fun _ _ => false) ∧ Below w.heap.size w wr) := hQ
      clear hQ
      have HE : Hid (Rb (wr.setRow (w.heap.size + 1) (ofr (ws A 24))) (w.heap.size + 1) (ws A 24)) := HQ.out.2.1.row
      go_wp2_with (first | refine wpl_ldr w.heap.size (ws A 24) _ HQ.out.1 rfl rfl rfl ?_ | refine wpl_str (w.heap.size + 1) _ (ws A 24) _ _ HQ.out.2.1 rfl rfl rfl rfl rfl ?_)
      refine bodyPost_ret (v := .agg (ofr (ws A 24))) ?_ rfl ⟨by rw [ws_ofr], bel_rw HQ.out.2.2 (by omega)⟩
      exact results_cell_row rfl _ _ (w.heap.size + 1) 38 _ (0, 0) _ rfl HE.out Try.underlying38 rfl (by rw [ofr_size]; exact Try.infoR)
end Go.Proofs.Ytgaelbgeoobgiab
