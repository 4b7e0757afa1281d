/-
  The program's cycles and signs of orders.
-/
import Derived.BigRegionIn
import Derived.Test.YtcblakcaoecgpaaPml
namespace Go.Proofs.Ytcblakcaoecgpaa
open Go.RowKit Go.Shelf
set_option linter.unusedVariables false
attribute [local go_sem] Oper.semAt_some

theorem bx3 {n B : Nat} {W W' : World} {t : TypeId} {v : Value} (h : Boxed W B t v) (k : Kp3 n W W') (hB : B < n) : Boxed W' B t v := (k.block B h.lt (.inl hB)).trans h
theorem bx_set {W : World} {B b : Nat} {t : TypeId} {v : Value} (h : Boxed W B t v) (hne : B ≠ b) (o : Nat) (u : Value) : Boxed (W.setCell ⟨b, o, none⟩ u) B t v :=
  (Below.heap_setCell W ⟨b, o, none⟩ u B hne).trans h
theorem below_shut {w W : World} {D : Nat} {o : Obj} (h : Below w.heap.size w W) (hD : w.heap.size ≤ D) : Below w.heap.size w (W.putObj D o) :=
  h.trans ⟨rfl, rfl, rfl, by simp, fun k hk => World.putObj_heap_other (by omega)⟩
set_option maxRecDepth 100000 in
set_option maxHeartbeats 4000000 in
theorem ps_holds : CPs := by
  intro a cap p w hl hI h64
  by_cases he : orE p = 0
  · have hC := pc_ok a cap p w hl hI h64 he
    have hz := orE_zero.1 he
    have HI : Hid (IsInts w.heap.size w a p) := hI
    have HE : Hid (orE p = 0) := he
    have HP : Hid (IsOrd p) := hz.2
    have h4 : p.length ≤ 4096 := hz.1
    clear hI h64 he hz
    refine (callsIn_wide (n := 5)).1 ?_
    refine callsIn_of_wp_marks Try.func9 rfl trivial ?_ rfl
    simp only [Try.ntmps9, List.size_toArray, List.length_cons, List.length_nil, Nat.reduceAdd, Nat.reduceSub, Array.replicate_succ, Array.replicate_zero, List.push_toArray, List.append_toArray, List.nil_append, List.cons_append]
    gi_wp2_with fail
    refine ⟨trivial, (callsIn_wide.2 hC).mono ?_⟩
    rintro e w1 ⟨rfl, hB⟩
    clear hC
    gi_wp2_with fail
    refine ⟨trivial, (callsIn_wide.2 (cyf_any a p.length cap _)).mono ?_⟩
    rintro e w' ⟨rfl, rfl⟩
    gi_wp2_with fail
    have b0 := Boxed.new w1 3 (.int .i64 1)
    have b1 := Boxed.new (w1.alloc (.cells #[.int .i64 1] 3)) 22 (.slice a p.length cap)
    replace b0 := b0.alloc (.cells #[.slice a p.length cap] 22)
    have hz1 := hB.size
    have hBV : Below w.heap.size w ((w1.alloc (.cells #[.int .i64 1] 3)).alloc (.cells #[.slice a p.length cap] 22)) := (hB.alloc hz1 _).alloc (by simp; omega) _
    have hsV : ((w1.alloc (.cells #[.int .i64 1] 3)).alloc (.cells #[.slice a p.length cap] 22)).heap.size = w1.heap.size + 2 := by simp
    rw [World.size_alloc] at b1
    generalize (w1.alloc (.cells #[.int .i64 1] 3)).alloc (.cells #[.slice a p.length cap] 22) = V at *
    clear hB
    refine cyc_range (by omega) (w1.heap.size + 1) w.heap.size a cap p HP.out h4 rfl (by omega) b1.cell (by omega) (HI.out.below hBV) rfl
      (fun hs W => Boxed W w1.heap.size 3 (.int .i64 (sgL p hs)) ∧ Below w.heap.size w W)
      (fun hs A B hA hk => ⟨bx3 hA.1 hk (by omega), Kp3.below hA.2 hk (by omega)⟩) ⟨b0, hBV⟩ ?a1 ?assign ?body ?done
    case assign =>
      intro l v W K hK
      gi_wp2
      exact hK
    case body =>
      rintro l f A B g gc hf hd ⟨hbx, hBA⟩ hsA hk hN
      have hbB := bx3 hbx hk (by omega)
      have HBB : Hid (Below w.heap.size w B) := Kp3.below hBA hk (by omega)
      have hc0 := hbB.cell
      have hf0 := hbB.frozen
      have HbB : Hid (Boxed B w1.heap.size 3 (.int .i64 (sgL p (hdT p f)))) := hbB
      have HNx : Hid (sgL p (hdT p f ++ [f]) = sgL p (hdT p f) * sgN p f) := sgL_next _ _
      have H1 := sgL_one (p := p) (hdT p f)
      have HO : Hid ((orb p f).length = per p f) := orb_length f
      have hper := (per_fact HP.out hf).1
      clear hbx hBA hN hbB b0 b1 hBV hk
      generalize hM : per p f = M at *
      have HM : Hid (per p f = M) := hM
      rw [HO.out]
      generalize sgL p (hdT p f) = s0 at *
      clear hM
      by_cases hev : M % 2 = 0
      · have HS : Hid (sgL p (hdT p f ++ [f]) = - s0) := by show _ = _; rw [HNx.out]; unfold sgN; rw [HM.out, if_pos hev]; omega
        have h5 : ((M : Int).tmod 2 == 0) = true := by rw [Int.tmod_eq_emod_of_nonneg (by omega)]; simp; omega
        refine wpIn_mono (Q := fun e _ C => e = .normal ∧ C = B.setCell ⟨w1.heap.size, 0, none⟩ (.int .i64 (- s0))) ?_ ?_
        · rcases H1 with rfl | rfl
          · gi_wp2
          · gi_wp2
        · rintro e _ C ⟨rfl, rfl⟩
          refine ⟨rfl, fun k hk => Below.heap_setCell _ _ _ _ (by simp only; omega), ?_, HBB.out.setCell (p := ⟨w1.heap.size, 0, none⟩) hz1 _⟩
          rw [HS.out]; exact Boxed.set _ HbB.out
      · have HS : Hid (sgL p (hdT p f ++ [f]) = s0) := by show _ = _; rw [HNx.out]; unfold sgN; rw [HM.out, if_neg hev]; omega
        have h5 : ((M : Int).tmod 2 == 0) = false := by rw [Int.tmod_eq_emod_of_nonneg (by omega), beq_eq_false_iff_ne]; omega
        refine wpIn_mono (Q := fun e _ C => e = .normal ∧ C = B) ?_ ?_
        · gi_wp2
        · rintro e _ C ⟨rfl, rfl⟩
          exact ⟨rfl, fun k hk => rfl, by rw [HS.out]; exact HbB.out, HBB.out⟩
    case done =>
      rintro W ⟨hbx, hBW⟩ hD
      rw [sgL_all HP.out] at hbx
      have hc0 := hbx.cell
      have HBW : Hid (Below w.heap.size w W) := hBW
      have HD : Hid (W.heap[V.heap.size]? = some (.deferred (some []))) := hD
      clear hbx hBW hD b0 b1 hBV
      gi_wp2
      refine ⟨by simp, .inl ⟨_, _, rfl, run_takeDeferred HD.out, ?_⟩⟩
      exact ⟨_, results_tmp2 rfl _ _ _, UZ.mkok HE.out (below_shut HBW.out (by omega))⟩
  · have hC := pc_no a cap p w hl hI h64 he
    have HE : Hid (orE p ≠ 0) := he
    clear hI h64 he
    generalize orE p = e0 at *
    refine (callsIn_wide (n := 5)).1 ?_
    refine callsIn_of_wp_marks Try.func9 rfl trivial ?_ rfl
    simp only [Try.ntmps9, List.size_toArray, List.length_cons, List.length_nil, Nat.reduceAdd, Nat.reduceSub, Array.replicate_succ, Array.replicate_zero, List.push_toArray, List.append_toArray, List.nil_append, List.cons_append]
    gi_wp2_with fail
    refine ⟨trivial, (callsIn_wide.2 hC).mono ?_⟩
    rintro e w1 ⟨rfl, hB⟩
    clear hC
    gi_wp2_with fail
    exact ⟨_, results_tmp2 rfl _ _ _, UZ.mkno rfl HE.out hB⟩
end Go.Proofs.Ytcblakcaoecgpaa
