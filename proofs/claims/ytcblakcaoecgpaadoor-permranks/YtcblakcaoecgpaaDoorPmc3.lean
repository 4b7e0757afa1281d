/-
  The program's cycles and signs of orders.
-/
import Derived.BigRegionIn
import Derived.Test.YtcblakcaoecgpaaDoorPml
import Derived.Maps.OwnIn
import Derived.Test.YtcblakcaoecgpaaDoorPrmr
namespace Go.Proofs.YtcblakcaoecgpaaDoor
open Go.RowKit Go.Shelf
set_option linter.unusedVariables false
attribute [local go_sem] Oper.semAt_some

theorem bx3 {n B : Nat} {W W' : World} {t : TypeId} {v : Value} (h : Boxed W B t v) (k : Kp3 n W W') (hB : B < n) : Boxed W' B t v := (k.block B h.lt (.inl hB)).trans h
theorem bx_set {W : World} {B b : Nat} {t : TypeId} {v : Value} (h : Boxed W B t v) (hne : B ≠ b) (o : Nat) (u : Value) : Boxed (W.setCell ⟨b, o, none⟩ u) B t v :=
  (Below.heap_setCell W ⟨b, o, none⟩ u B hne).trans h
theorem below_shut {w W : World} {D : Nat} {o : Obj} (h : Below w.heap.size w W) (hD : w.heap.size ≤ D) : Below w.heap.size w (W.putObj D o) :=
  h.trans ⟨rfl, rfl, rfl, by simp, fun k hk => World.putObj_heap_other (by omega)⟩
set_option maxRecDepth 100000 in
set_option maxHeartbeats 4000000 in
theorem ps_holds : CPs := by
  intro a cap p w hl hI h64
  by_cases he : orE p = 0
  · have hC := pc_ok a cap p w hl hI h64 he
    have hz := orE_zero.1 he
    have HI : Hid (IsInts w.heap.size w a p) := hI
    have HE : Hid (orE p = 0) := he
    have HP : Hid (IsOrd p) := hz.2
    have h4 : p.length ≤ 4096 := hz.1
    clear hI h64 he hz
    refine (callsIn_wide (n := 5)).1 ?_
    refine callsIn_of_wp_marks Tryd.func22 rfl trivial ?_ rfl
    simp only [Tryd.ntmps22, List.size_toArray, List.length_cons, List.length_nil, Nat.reduceAdd, Nat.reduceSub, Array.replicate_succ, Array.replicate_zero, List.push_toArray, List.append_toArray, List.nil_append, List.cons_append]
    gi_wp2_with fail
    refine ⟨trivial, (callsIn_wide.2 hC).mono ?_⟩
    rintro e w1 ⟨rfl, hB⟩
    clear hC
    gi_wp2_with fail
    refine ⟨trivial, (callsIn_wide.2 (cyf_any a p.length cap _)).mono ?_⟩
    rintro e w' ⟨rfl, rfl⟩
    gi_wp2_with fail
    have b0 := Boxed.new w1 3 (.int .i64 1)
    have b1 := Boxed.new (w1.alloc (.cells #[.int .i64 1] 3)) 22 (.slice a p.length cap)
    replace b0 := b0.alloc (.cells #[.slice a p.length cap] 22)
    have hz1 := hB.size
    have hBV : Below w.heap.size w ((w1.alloc (.cells #[.int .i64 1] 3)).alloc (.cells #[.slice a p.length cap] 22)) := (hB.alloc hz1 _).alloc (by simp; omega) _
    have hsV : ((w1.alloc (.cells #[.int .i64 1] 3)).alloc (.cells #[.slice a p.length cap] 22)).heap.size = w1.heap.size + 2 := by simp
    rw [World.size_alloc] at b1
    generalize (w1.alloc (.cells #[.int .i64 1] 3)).alloc (.cells #[.slice a p.length cap] 22) = V at *
    clear hB
    refine cyc_range (by omega) (w1.heap.size + 1) w.heap.size a cap p HP.out h4 rfl (by omega) b1.cell (by omega) (HI.out.below hBV) rfl
      (fun hs W => Boxed W w1.heap.size 3 (.int .i64 (sgL p hs)) ∧ Below w.heap.size w W)
      (fun hs A B hA hk => ⟨bx3 hA.1 hk (by omega), Kp3.below hA.2 hk (by omega)⟩) ⟨b0, hBV⟩ ?a1 ?assign ?body ?done
    case assign =>
      intro l v W K hK
      gi_wp2
      exact hK
    case body =>
      rintro l f A B g gc hf hd ⟨hbx, hBA⟩ hsA hk hN
      have hbB := bx3 hbx hk (by omega)
      have HBB : Hid (Below w.heap.size w B) := Kp3.below hBA hk (by omega)
      have hc0 := hbB.cell
      have hf0 := hbB.frozen
      have HbB : Hid (Boxed B w1.heap.size 3 (.int .i64 (sgL p (hdT p f)))) := hbB
      have HNx : Hid (sgL p (hdT p f ++ [f]) = sgL p (hdT p f) * sgN p f) := sgL_next _ _
      have H1 := sgL_one (p := p) (hdT p f)
      have HO : Hid ((orb p f).length = per p f) := orb_length f
      have hper := (per_fact HP.out hf).1
      clear hbx hBA hN hbB b0 b1 hBV hk
      generalize hM : per p f = M at *
      have HM : Hid (per p f = M) := hM
      rw [HO.out]
      generalize sgL p (hdT p f) = s0 at *
      clear hM
      by_cases hev : M % 2 = 0
      · have HS : Hid (sgL p (hdT p f ++ [f]) = - s0) := by show _ = _; rw [HNx.out]; unfold sgN; rw [HM.out, if_pos hev]; omega
        have h5 : ((M : Int).tmod 2 == 0) = true := by rw [Int.tmod_eq_emod_of_nonneg (by omega)]; simp; omega
        refine wpIn_mono (Q := fun e _ C => e = .normal ∧ C = B.setCell ⟨w1.heap.size, 0, none⟩ (.int .i64 (- s0))) ?_ ?_
        · rcases H1 with rfl | rfl
          · gi_wp2
          · gi_wp2
        · rintro e _ C ⟨rfl, rfl⟩
          refine ⟨rfl, fun k hk => Below.heap_setCell _ _ _ _ (by simp only; omega), ?_, HBB.out.setCell (p := ⟨w1.heap.size, 0, none⟩) hz1 _⟩
          rw [HS.out]; exact Boxed.set _ HbB.out
      · have HS : Hid (sgL p (hdT p f ++ [f]) = s0) := by show _ = _; rw [HNx.out]; unfold sgN; rw [HM.out, if_neg hev]; omega
        have h5 : ((M : Int).tmod 2 == 0) = false := by rw [Int.tmod_eq_emod_of_nonneg (by omega), beq_eq_false_iff_ne]; omega
        refine wpIn_mono (Q := fun e _ C => e = .normal ∧ C = B) ?_ ?_
        · gi_wp2
        · rintro e _ C ⟨rfl, rfl⟩
          exact ⟨rfl, fun k hk => rfl, by rw [HS.out]; exact HbB.out, HBB.out⟩
    case done =>
      rintro W ⟨hbx, hBW⟩ hD
      rw [sgL_all HP.out] at hbx
      have hc0 := hbx.cell
      have HBW : Hid (Below w.heap.size w W) := hBW
      have HD : Hid (W.heap[V.heap.size]? = some (.deferred (some []))) := hD
      clear hbx hBW hD b0 b1 hBV
      gi_wp2
      refine ⟨by simp, .inl ⟨_, _, rfl, run_takeDeferred HD.out, ?_⟩⟩
      exact ⟨_, results_tmp2 rfl _ _ _, UZ.mkok HE.out (below_shut HBW.out (by omega))⟩
  · have hC := pc_no a cap p w hl hI h64 he
    have HE : Hid (orE p ≠ 0) := he
    clear hI h64 he
    generalize orE p = e0 at *
    refine (callsIn_wide (n := 5)).1 ?_
    refine callsIn_of_wp_marks Tryd.func22 rfl trivial ?_ rfl
    simp only [Tryd.ntmps22, List.size_toArray, List.length_cons, List.length_nil, Nat.reduceAdd, Nat.reduceSub, Array.replicate_succ, Array.replicate_zero, List.push_toArray, List.append_toArray, List.nil_append, List.cons_append]
    gi_wp2_with fail
    refine ⟨trivial, (callsIn_wide.2 hC).mono ?_⟩
    rintro e w1 ⟨rfl, hB⟩
    clear hC
    gi_wp2_with fail
    exact ⟨_, results_tmp2 rfl _ _ _, UZ.mkno rfl HE.out hB⟩
theorem OwnR.held {lo : Nat} {W W' : World} {v : Value} {rs : List RwV} (h : OwnR lo W v rs) (hk : ∀ k, lo ≤ k → k < W.heap.size → W'.heap[k]? = W.heap[k]?) (hs : W.heap.size ≤ W'.heap.size) : OwnR lo W' v rs := by
  obtain ⟨⟨h1, h2⟩, hr⟩ := h
  refine ⟨⟨h1, ?_⟩, fun j hj => ?_⟩
  · rcases h2 with e | ⟨g, cap, cur, e, hb, hg, rest⟩
    · exact .inl e
    · exact .inr ⟨g, cap, cur, e, hb, (hk g hb (Array.getElem?_eq_some_iff.1 hg).1).trans hg, rest⟩
  · rcases hr j hj with e | ⟨b, off, e, h0, hb, hne, hc⟩
    · exact .inl e
    · exact .inr ⟨b, off, e, h0, Nat.lt_of_lt_of_le hb hs, hne, fun i hi => (World.cell?_of_block (w := W) (a := ⟨b, off + i, none⟩) (hk b h0 hb)).trans (hc i hi)⟩
/-- append of one list, in a round. -/
theorem app_rows_in {F : Fence} {nF : Nat} {ops : Array Oper} {rest : List Oper} {o : Oper} {a : Act} {Q : Exit → Act → World → Prop} (hgd : o.guard = none) (s x : Operand)
    (ho : o.op = .call { callee := .builtin .append, args := #[s, x], argTypes := #[40, 40] }) (W : World)
    (base B : Nat) (v : Value) (rs : List RwV) (r : RwV) (y : Value) (hy : y = r.v) (hs : a.eval s = v) (hx : a.eval x = .slice (some ⟨B, 0, none⟩) 1 1) (hown : OwnR base W v rs) (hr : SepR v.ownBlock base W r.1.1 r.2)
    (hnew : W.heap[B]? = some (.cells #[y] 22 (0, 0))) (hlen : rs.length ≤ 1000000) (hbase : base ≤ W.heap.size)
    (h : ∀ g gc w1, OwnR base w1 (.slice (some ⟨g, 0, none⟩) (rs.length + 1) gc) (rs ++ [r]) → Below base W w1 → wpListIn F nF Tryd.prog ops Q rest (a.put o.dst (.slice (some ⟨g, 0, none⟩) (rs.length + 1) gc)) w1) :
    wpListIn F nF Tryd.prog ops Q (o :: rest) a W := by
  subst hy
  obtain ⟨i0, hi, hz0, hz1, hz2⟩ := info_parts infoSl9
  refine wpListIn_append_own_at W hgd s x 40 ho base 22 i0 (.slice none 0 0) 1 24 Tryd.underlying40 hi hz0 hz1 hz2 rfl (by decide) v rs.length (rs.map RwV.v) hs hown.1 ⟨B, 0, none⟩ 1 1 [r.v] hx rfl
    (World.news_of_block (cs := #[r.v]) (t := 22) (fr := (0, 0)) hnew) (by simp [Value.oneCell', RwV.v]) (by unfold maxLen; omega) (by omega) hbase ?_
  intro v' w1 hown1 hgrow _ hat
  obtain ⟨g, gc, rfl, _, _⟩ := hown1.form (by omega)
  have hw : v.ownBlock = some g ∨ g = W.heap.size := by
    rcases hat with e | e
    · exact .inl (by rw [← e]; rfl)
    · exact .inr (by simpa [Value.ownBlock] using e)
  exact h g gc w1 (hown.snoc hr (by rw [List.map_append]; exact hown1) hgrow hw) ((Below.refl base W).grown hgrow hbase (fun j hj => (hown.1.lt j hj).1))
/-- Cycles that are told. -/
def ClP (p : List Int) (w : World) (r : Ending) (w' : World) : Prop := ∃ g gc rs, r = .returned (.slice g rs.length gc) ∧ Hid (rws rs = rnds p) ∧ IsRs w'.heap.size w' g rs ∧ Below w.heap.size w w'
theorem rs_shut {n D : Nat} {W : World} {o : Obj} {a : Option Addr} {rs : List RwV} (h : IsRs n W a rs) (hD : W.heap[D]? = some o) (ho : o.isCells = false) (o' : Obj) : IsRs n (W.putObj D o') a rs := by
  have hc : ∀ (q : Addr) (v : Value), W.cell? q = some v → (W.putObj D o').cell? q = some v := fun q v hq => by
    refine (World.cell?_of_block (w := W) (World.putObj_heap_other (fun e => ?_))).trans hq
    rw [World.cell?, e, hD] at hq
    cases o <;> simp_all [Obj.isCells]
  refine ⟨?_, fun j hj => ?_⟩
  · rcases h.1 with e | ⟨b, off, e, hb, hq⟩
    · exact .inl e
    · exact .inr ⟨b, off, e, hb, fun j hj => hc _ _ (hq j hj)⟩
  · rcases h.2 j hj with e | ⟨b, off, e, hb, hq⟩
    · exact .inl e
    · exact .inr ⟨b, off, e, hb, fun i hi => hc _ _ (hq i hi)⟩
set_option maxRecDepth 100000 in
set_option maxHeartbeats 4000000 in
theorem aps_any (a : Option Addr) (cap : Nat) (p : List Int) (hp : IsOrd p) (h4 : p.length ≤ 4096) (Bp n₀ : Nat) (w : World) (hBp : Bp < w.heap.size) (hc : w.cell? ⟨Bp, 0, none⟩ = some (.slice a p.length cap)) (hn₀ : n₀ ≤ w.heap.size) (hI : IsInts n₀ w a p) :
    Calls Tryd.prog 41 #[.slice none 0 0, .func (.func 39) #[] #[.pointer (some ⟨Bp, 0, none⟩)]] w (ClP p w) := by
  have HP : Hid (IsOrd p) := hp
  have HI : Hid (IsInts n₀ w a p) := hI
  have HC : Hid (w.cell? ⟨Bp, 0, none⟩ = some (.slice a p.length cap)) := hc
  clear hp hI hc
  refine (callsIn_wide (n := 5)).1 ?_
  refine callsIn_of_wp_marks Tryd.func41 rfl trivial ?_ rfl
  simp only [Tryd.ntmps41, List.size_toArray, List.length_cons, List.length_nil, Nat.reduceAdd, Nat.reduceSub, Array.replicate_succ, Array.replicate_zero, List.push_toArray, List.append_toArray, List.nil_append, List.cons_append]
  gi_wp2_with fail
  have b0 := Boxed.new w 40 (.slice none 0 0)
  have hBV : Below w.heap.size w (w.alloc (.cells #[.slice none 0 0] 40)) := (Below.refl _ w).alloc (Nat.le_refl _) _
  have hsV : (w.alloc (.cells #[.slice none 0 0] 40)).heap.size = w.heap.size + 1 := by simp
  generalize w.alloc (.cells #[.slice none 0 0] 40) = V at *
  refine cyc_range (by omega) Bp n₀ a cap p HP.out h4 rfl (by omega) ((hBV.cell (p := ⟨Bp, 0, none⟩) hBp).trans HC.out) (by omega) (HI.out.below (hBV.mono hn₀)) rfl
    (fun hs W => ∃ v rs, Boxed W w.heap.size 40 v ∧ rws rs = hs.map (orb p) ∧ OwnR (V.heap.size + 3) W v rs ∧ Below w.heap.size w W)
    (fun hs A B hA hk => by
      obtain ⟨v, rs, h1, h2, h3, h5⟩ := hA
      exact ⟨v, rs, bx3 h1 hk (by omega), h2, h3.held (fun k h6 h7 => hk.block k h7 (.inr h6)) hk.size, Kp3.below h5 hk (by omega)⟩)
    ⟨_, [], b0, rfl, OwnR.nil _ _, hBV⟩ ?a1 ?assign ?body ?done
  case assign =>
    intro l v W K hK
    gi_wp2
    exact hK
  case body =>
    rintro l f A B g gc hf hd ⟨v, rs, hbx, hrs, hown, hBA⟩ hsA hk hN
    have hbB := bx3 hbx hk (by omega)
    have HBB : Hid (Below w.heap.size w B) := Kp3.below hBA hk (by omega)
    have hc0 := hbB.cell
    have hf0 := hbB.frozen
    have HbB : Hid (Boxed B w.heap.size 40 v) := hbB
    have HR : Hid (rws (rs ++ [((g, gc), orb p f)]) = (hdT p f ++ [f]).map (orb p)) := by
      show _ = _
      rw [List.map_append, ← hrs]; simp [rws]
    have hLr : rs.length ≤ 4096 := by
      have e1 := congrArg List.length hrs
      have e2 := hdT_len p f
      simp [rws] at e1
      omega
    have hsB : A.heap.size ≤ B.heap.size := hk.size
    have hownB : OwnR (V.heap.size + 3) B v rs := hown.held (fun k h6 h7 => hk.block k h7 (.inr h6)) hk.size
    have HOw : Hid (OwnR (V.heap.size + 3) (B.alloc (.cells #[.slice g (orb p f).length gc] 22)) v rs) := hownB.al _
    have HSp : Hid (SepR v.ownBlock (V.heap.size + 3) (B.alloc (.cells #[.slice g (orb p f).length gc] 22)) g (orb p f)) := (SepR.of_new hN.1 hsA hown.lt).al _
    obtain ⟨va, vc, rfl, _⟩ := hown.is
    clear hbx hBA hN hbB b0 hBV hk hown hownB hrs
    generalize hD : orb p f = D at *
    have HD : Hid (orb p f = D) := hD
    clear hD
    refine wpIn_mono (Q := fun e _ C => e = .normal ∧ ∃ g1 gc1 w3, C = w3.setCell ⟨w.heap.size, 0, none⟩ (.slice (some ⟨g1, 0, none⟩) (rs.length + 1) gc1) ∧ OwnR (V.heap.size + 3) w3 (.slice (some ⟨g1, 0, none⟩) (rs.length + 1) gc1) (rs ++ [((g, gc), D)]) ∧ Below (V.heap.size + 3) B w3) ?_ ?_
    · gi_wp2_with (gi_at_builtin; refine app_rows_in rfl _ _ rfl _ (V.heap.size + 3) B.heap.size (.slice va rs.length vc) rs ((g, gc), D) (.slice g D.length gc) rfl rfl rfl HOw.out HSp.out (heap_alloc_new B _) (by omega) (by simp; omega) ?_; intro g1 gc1 w3 hown1 hB3; have hB4 : Below (V.heap.size + 3) B w3 := ((Below.refl _ B).alloc (by omega) _).trans hB3; have hc3 := (hB4.cell (p := ⟨w.heap.size, 0, none⟩) (by show w.heap.size < _; omega)).trans hc0; have hf3 := (hB4.frozen (p := ⟨w.heap.size, 0, none⟩) (by show w.heap.size < _; omega)).trans hf0)
      exact ⟨g1, gc1, w3, rfl, by rw [← hsV]; exact hown1, by rw [← hsV]; exact hB4⟩
    · rintro e _ C ⟨rfl, g1, gc1, w3, rfl, hown1, hB3⟩
      refine ⟨rfl, fun k hk => (Below.heap_setCell _ _ _ _ (by simp only; omega)).trans (hB3.block k (by omega)), _, rs ++ [((g, gc), D)], Boxed.set _ ((hB3.block w.heap.size (by omega)).trans HbB.out), HR.out, ?_, (HBB.out.trans (hB3.mono (by omega))).setCell (p := ⟨w.heap.size, 0, none⟩) (Nat.le_refl _) _⟩
      exact hown1.held (fun k h6 h7 => Below.heap_setCell _ _ _ _ (by simp only; omega)) (by simp [World.setCell])
  case done =>
    rintro W ⟨v, rs, hbx, hrs, hown, hBW⟩ hD
    obtain ⟨g, gc, rfl, hrsI⟩ := hown.is
    have hc0 := hbx.cell
    have HBW : Hid (Below w.heap.size w W) := hBW
    have HD : Hid (W.heap[V.heap.size]? = some (.deferred (some []))) := hD
    have HRS : Hid (rws rs = rnds p) := hrs
    have HIS : Hid (IsRs W.heap.size W g rs) := hrsI
    clear hbx hBW hD b0 hBV hrs hown hrsI
    gi_wp2
    refine ⟨by simp, .inl ⟨_, _, rfl, run_takeDeferred HD.out, ?_⟩⟩
    refine ⟨_, results_tmp rfl _ _ _, g, gc, rs, rfl, HRS, ?_, below_shut HBW.out (by omega)⟩
    have := rs_shut HIS.out HD.out rfl (.deferred none)
    simpa using this
set_option maxRecDepth 100000 in
set_option maxHeartbeats 1000000 in
theorem col_any (a : Option Addr) (cap : Nat) (p : List Int) (hp : IsOrd p) (h4 : p.length ≤ 4096) (Bp n₀ : Nat) (w : World) (hBp : Bp < w.heap.size) (hc : w.cell? ⟨Bp, 0, none⟩ = some (.slice a p.length cap)) (hn₀ : n₀ ≤ w.heap.size) (hI : IsInts n₀ w a p) :
    Calls Tryd.prog 33 #[.func (.func 39) #[] #[.pointer (some ⟨Bp, 0, none⟩)]] w (ClP p w) := by
  have hC := aps_any a cap p hp h4 Bp n₀ w hBp hc hn₀ hI
  clear hp hI hc
  go_enter Tryd.func33, Tryd.ntmps33
  go_wp2_with fail
  refine hC.mono ?_
  rintro e w1 ⟨g, gc, rs, rfl, h1, h2, h3⟩
  go_wp2_with fail
  go_ret
  exact ⟨g, gc, rs, rfl, h1, h2, h3⟩
theorem UR9.mkok {e : Int} {R : List (List Int)} {w w' : World} {g : Option Addr} {gc : Nat} {rs : List RwV} (h : e = 0) (h1 : rws rs = R) (h2 : IsRs w'.heap.size w' g rs) (hB : Below w.heap.size w w') : UR9 e R w (.returned (.tuple #[.slice g rs.length gc, .nilIface])) w' := by
  subst h
  exact ⟨g, gc, rs, rfl, h1, h2, hB⟩
theorem UR9.mkno {e : Int} {R : List (List Int)} {w w' : World} {e' : Int} (h : e = e') (h0 : e' ≠ 0) (hB : Below w.heap.size w w') : UR9 e R w (.returned (.tuple #[.slice none 0 0, .iface 23 (.int .i64 e')])) w' := by
  subst h
  exact ⟨none, 0, [], by rw [errV_pos h0]; rfl, by rw [if_neg h0]; rfl, ⟨.inl rfl, fun j hj => by simp at hj⟩, hB⟩
set_option maxRecDepth 100000 in
set_option maxHeartbeats 2000000 in
theorem py_holds : CPy := by
  intro a cap p w hl hI h64
  by_cases he : orE p = 0
  · have hC := pc_ok a cap p w hl hI h64 he
    have hz := orE_zero.1 he
    have HI : Hid (IsInts w.heap.size w a p) := hI
    have HE : Hid (orE p = 0) := he
    have HP : Hid (IsOrd p) := hz.2
    have h4 : p.length ≤ 4096 := hz.1
    clear hI h64 he hz
    go_enter Tryd.func20, Tryd.ntmps20
    go_wp2_with fail
    refine hC.mono ?_
    rintro e w1 ⟨rfl, hB⟩
    clear hC
    have HB : Hid (Below w.heap.size w w1) := hB
    clear hB
    go_wp2_with fail
    refine (cyf_any a p.length cap _).mono ?_
    rintro e w' ⟨rfl, rfl⟩
    have hBV : Below w.heap.size w (w1.alloc (.cells #[.slice a p.length cap] 22)) := HB.out.alloc HB.out.size _
    have hC2 := col_any a cap p HP.out h4 w1.heap.size w.heap.size (w1.alloc (.cells #[.slice a p.length cap] 22)) (by simp) (Boxed.new w1 22 (.slice a p.length cap)).cell hBV.size (HI.out.below hBV)
    have HBV : Hid (Below w.heap.size w (w1.alloc (.cells #[.slice a p.length cap] 22))) := hBV
    clear hBV
    go_wp2_with fail
    refine hC2.mono ?_
    rintro e w2 ⟨g, gc, rs, rfl, h1, h2, h3⟩
    clear hC2
    go_wp2_with fail
    go_ret2
    exact UR9.mkok HE.out h1.out h2 (HBV.out.trans (h3.mono HBV.out.size))
  · have hC := pc_no a cap p w hl hI h64 he
    have HE : Hid (orE p ≠ 0) := he
    clear hI h64 he
    generalize orE p = e0 at *
    go_enter Tryd.func20, Tryd.ntmps20
    go_wp2_with fail
    refine hC.mono ?_
    rintro e w1 ⟨rfl, hB⟩
    go_wp2_with fail
    go_ret2
    exact UR9.mkno rfl HE.out hB
end Go.Proofs.YtcblakcaoecgpaaDoor
