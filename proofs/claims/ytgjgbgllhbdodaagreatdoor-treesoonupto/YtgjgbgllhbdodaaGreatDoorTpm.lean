/-
  The reader of words: an expression.
-/
import Derived.Deep.RegionWith
import Derived.Test.YtgjgbgllhbdodaaGreatDoorTpl
namespace Go.Proofs.YtgjgbgllhbdodaaGreatDoor
open Go.RowKit Go.Lib
set_option linter.unusedVariables false

theorem ExL.exc {ts : List TkA} {lo rb : Nat} {w w' : World} {v : Value} {dp : Int} {i j : Nat} {wr : Bool} {x : Rp} (h : ExL ts lo w v dp i j wr x) (hE : Exc rb w w') (hlo : rb < lo) : ExL ts lo w' v dp i j wr x := by
  match x with
  | .ok (ns, r) => exact ⟨h.1, h.2.1, h.2.2.1, h.2.2.2.exc hE fun k hk => by omega⟩
  | .error k => exact h
theorem ExL.mono {ts : List TkA} {lo lo' : Nat} {w : World} {v : Value} {dp : Int} {i j : Nat} {wr : Bool} {x : Rp} (h : ExL ts lo w v dp i j wr x) (hlo : lo' ≤ lo) : ExL ts lo' w v dp i j wr x := by
  match x with
  | .ok (ns, r) => exact ⟨h.1, h.2.1, h.2.2.1, h.2.2.2.mono fun k _ hk => by omega⟩
  | .error k => exact h
theorem FnL.mono {ts : List TkA} {lo lo' : Nat} {w : World} {x0 x1 x2 : Int} {sa : Option Addr} {n : Nat} {dp : Int} {j : Nat} {wr : Bool} {x : Rf} (h : FnL ts lo w x0 x1 x2 sa n dp j wr x) (hlo : lo' ≤ lo) : FnL ts lo' w x0 x1 x2 sa n dp j wr x := by
  match x with
  | .ok ((ac, m, body), r) =>
    obtain ⟨h1, h2, h3, nss, h4, h5, h6, h7⟩ := h
    exact ⟨h1, h2, h3, nss, h4, h5, h6, h7.mono fun k _ hk => by omega⟩
  | .error k => exact h
def OnA (rb : Nat) (a : Option Addr) (cap : Nat) (ts : List TkA) (E : Bool → List Tk → Rp) (i : Nat) (dp : Int) (w : World) (e : Ending) (w' : World) : Prop :=
  ∃ (x0 x1 x2 : Int) (sa : Option Addr) (n sc : Nat) (j1 : Nat) (wr1 : Bool) (v : Value) (j2 : Nat) (wr2 : Bool) (w1 w2 : World), e = .returned (.iface 121 (.agg #[.int .i64 x0, .int .i64 x1, .int .i64 x2, .slice sa n sc, v])) ∧ Exc rb w w' ∧ Rdr w' rb (.slice a ts.length cap) (j2 : Int) dp wr2 ∧
    i < j1 ∧ j1 ≤ j2 ∧ j2 ≤ ts.length ∧ FnL ts w.heap.size w1 x0 x1 x2 sa n dp j1 wr1 (fnP E (decide (0 < dp)) (lx ts i)) ∧ Exc rb w1 w' ∧ w.heap.size ≤ w2.heap.size ∧
    (wr1 = false → ExL ts w2.heap.size w' v dp j1 j2 wr2 (E (decide (0 < dp)) (lx ts j1))) ∧ (kdV ts j1 dp wr1 = 0 → j2 = j1 ∧ wr2 = true)
theorem alloc4 (w : World) (t : TypeId) (x0 x1 x2 x3 a b c d : Value) : Kb4 t (((((w.alloc (.cells #[a, b, c, d] t)).setCell ⟨w.heap.size, 0, none⟩ x0).setCell ⟨w.heap.size, 1, none⟩ x1).setCell ⟨w.heap.size, 2, none⟩ x2).setCell ⟨w.heap.size, 3, none⟩ x3) w.heap.size x0 x1 x2 x3 := (Kb4.new w t a b c d).set _ _ _ _
set_option maxRecDepth 100000 in
set_option maxHeartbeats 8000000 in
theorem ex_one (rb : Nat) (a : Option Addr) (cap : Nat) (ts : List TkA) (hG : RgT ts) (hl : ts.length ≤ 1000) (E : Bool → List Tk → Rp) (F : Nat) (hE : EcP rb a cap ts E F) (i : Nat) (hi : i ≤ ts.length) (dp : Int) (wr : Bool) (h0 : 0 ≤ dp) (hdp : dp ≤ i) (hF : ts.length - i ≤ F) (hk : fnK (kdV ts i dp wr) = true) (hw : wr = false)
    (w : World) (hR : Rdr w rb (.slice a ts.length cap) (i : Nat) dp wr) (hT : IsTk rb w a ts) :
    Calls Tryz.prog 42 #[.pointer (some ⟨rb, 0, none⟩)] w (OnA rb a cap ts E i dp w) := by
  subst hw
  have hc := isfn_any rb a cap ts hl i hi dp false w hR hT
  have hf := fun W h1 h2 => function_any rb a cap ts hG hl E F hE i hi dp h0 hdp hF hk W h1 h2
  have HX : Hid (∀ (j : Nat) (wr : Bool) (W : World), i < j → j ≤ ts.length → Rdr W rb (.slice a ts.length cap) (j : Nat) dp wr → IsTk rb W a ts →
      Calls Tryz.prog 42 #[.pointer (some ⟨rb, 0, none⟩)] W (ExA rb a cap ts (E (decide (0 < dp)) (lx ts j)) j dp wr W)) :=
    fun j wr W h1 h2 h3 h4 => hE j dp wr W h2 h0 (by omega) (by omega) h3 h4
  have HR : Hid (Rdr w rb (.slice a ts.length cap) (i : Nat) dp false) := hR
  have HT : Hid (IsTk rb w a ts) := hT
  have hbs : rb < w.heap.size := hR.lt
  rw [hk] at hc
  clear hR hT hE hk hG
  go_enter Tryz.func42, Tryz.ntmps42
  go_wp2_with fail
  refine hc.mono ?_
  rintro e w1 ⟨rfl, m, rfl⟩
  have HE1 : Hid (Exc rb w (w.drewN m)) := (Exc.refl rb w).drewN m
  have HR1 : Hid (Rdr (w.drewN m) rb (.slice a ts.length cap) (i : Nat) dp false) := HR.out
  generalize w.drewN m = w1 at *
  clear hc
  go_wp2_with fail
  refine (hf w1 HR1.out (HT.out.go (HE1.out.below (by omega)))).mono ?_
  rintro e w2 ⟨x0, x1, x2, sa, n, sc, j1, wr1, rfl, hE2, hR2, hij, hj1, hL⟩
  have HE2 : Hid (Exc rb w w2) := HE1.out.trans hE2
  have HR2 : Hid (Rdr w2 rb (.slice a ts.length cap) (j1 : Int) dp wr1) := hR2
  have HL : Hid (FnL ts w1.heap.size w2 x0 x1 x2 sa n dp j1 wr1 (fnP E (decide (0 < dp)) (lx ts i))) := hL
  have hz1 : w.heap.size ≤ w1.heap.size := HE1.out.size
  clear hE2 hR2 hL hf
  go_wp2_with fail
  obtain ⟨w3, hw3⟩ : ∃ W, W = w2.alloc (.cells #[.int .i64 x0, .int .i64 x1, .int .i64 x2, .slice sa n sc] 119) := ⟨_, rfl⟩
  have HR3 : Hid (Rdr w3 rb (.slice a ts.length cap) (j1 : Int) dp wr1) := by rw [hw3]; exact HR2.out.al _
  have HE3 : Hid (Exc rb w2 w3) := by rw [hw3]; exact (Exc.refl rb w2).alloc _
  have HK3 : Hid (Kb4 119 w3 w2.heap.size (.int .i64 x0) (.int .i64 x1) (.int .i64 x2) (.slice sa n sc)) := by rw [hw3]; exact Kb4.new w2 _ _ _ _ _
  have HT3 : Hid (IsTk rb w3 a ts) := HT.out.go ((HE2.out.trans HE3.out).below (by omega))
  have hz2 : w.heap.size ≤ w2.heap.size := HE2.out.size
  have hz3 : w2.heap.size < w3.heap.size := HK3.out.lt
  rw [← hw3]
  clear hw3
  have d0 := HK3.out.c0
  have d1 := HK3.out.c1
  have d2 := HK3.out.c2
  have d3 := HK3.out.c3
  go_region_with (go_at_call 42; refine (HX.out j1 wr1 w3.drew hij hj1 HR3.out HT3.out).mono ?_; rintro e w4 ⟨v, j2, wr2, rfl, hv, hE4', hR4, hj12, hj2, hL4, hD4⟩; have hE4 : Exc rb w3 w4 := (Exc.refl rb w3).drew.trans hE4'; have HV : Hid (Exc rb w3 w4 ∧ Rdr w4 rb (.slice a ts.length cap) (j2 : Int) dp wr2 ∧ j1 ≤ j2 ∧ j2 ≤ ts.length ∧ (wr1 = false → ExL ts w3.heap.size w4 v dp j1 j2 wr2 (E (decide (0 < dp)) (lx ts j1))) ∧ (kdV ts j1 dp wr1 = 0 → j2 = j1 ∧ wr2 = true)) := ⟨hE4, hR4, hj12, hj2, hL4, hD4⟩; have K4 := HK3.out.exc hE4 (by omega); have e0 := K4.c0; have e1 := K4.c1; have e2 := K4.c2; have e3 := K4.c3; have hcv := one_cells hv; have hca := one_agg hv; clear hE4' hE4 hR4 hj12 hj2 hL4 hD4 K4)
  all_goals
    go_wp2_with fail
    go_ret
    exact ⟨x0, x1, x2, sa, n, sc, j1, wr1, v, j2, wr2, w2, w3, rfl, (HE2.out.trans HE3.out).trans HV.out.1, HV.out.2.1, hij, HV.out.2.2.1, HV.out.2.2.2.1, HL.out.mono hz1, HE3.out.trans HV.out.1, by omega, HV.out.2.2.2.2.1, HV.out.2.2.2.2.2⟩
def TwA (rb : Nat) (a : Option Addr) (cap : Nat) (ts : List TkA) (E : Bool → List Tk → Rp) (i : Nat) (dp : Int) (wr : Bool) (w : World) (e : Ending) (w' : World) : Prop :=
  ∃ (u : Value) (j0 : Nat) (wr0 : Bool) (w0 : World), u.oneCell' = true ∧ Exc rb w w0 ∧ i ≤ j0 ∧ j0 ≤ ts.length ∧ (wr = false → ExL ts w.heap.size w0 u dp i j0 wr0 (tmP (E (decide (0 < dp))) (decide (0 < dp)) (lx ts i))) ∧ (kdV ts i dp wr = 0 → j0 = i ∧ wr0 = true) ∧ Exc rb w0 w' ∧
    ((fnK (kdV ts j0 dp wr0) = false ∧ e = .returned u ∧ Rdr w' rb (.slice a ts.length cap) (j0 : Int) dp wr0) ∨
     (fnK (kdV ts j0 dp wr0) = true ∧ ∃ (x0 x1 x2 : Int) (sa : Option Addr) (n sc : Nat) (j1 : Nat) (wr1 : Bool) (v : Value) (j2 : Nat) (wr2 : Bool) (w1 w2 : World), e = .returned (.iface 126 (.agg #[.int .i64 x0, .int .i64 x1, .int .i64 x2, .slice sa n sc, u, v])) ∧ Rdr w' rb (.slice a ts.length cap) (j2 : Int) dp wr2 ∧
      j0 < j1 ∧ j1 ≤ j2 ∧ j2 ≤ ts.length ∧ FnL ts w.heap.size w1 x0 x1 x2 sa n dp j1 wr1 (fnP E (decide (0 < dp)) (lx ts j0)) ∧ Exc rb w1 w' ∧ w.heap.size ≤ w2.heap.size ∧
      (wr1 = false → ExL ts w2.heap.size w' v dp j1 j2 wr2 (E (decide (0 < dp)) (lx ts j1))) ∧ (kdV ts j1 dp wr1 = 0 → j2 = j1 ∧ wr2 = true)))
set_option maxRecDepth 100000 in
set_option maxHeartbeats 8000000 in
theorem ex_two (rb : Nat) (a : Option Addr) (cap : Nat) (ts : List TkA) (hG : RgT ts) (hl : ts.length ≤ 1000) (E : Bool → List Tk → Rp) (F : Nat) (hE : EcP rb a cap ts E F) (i : Nat) (hi : i ≤ ts.length) (dp : Int) (wb : Bool) (h0 : 0 ≤ dp) (hdp : dp ≤ i) (hF : ts.length - i ≤ F) (hk : fnK (kdV ts i dp wb) = false)
    (w : World) (hR : Rdr w rb (.slice a ts.length cap) (i : Nat) dp wb) (hT : IsTk rb w a ts) :
    Calls Tryz.prog 42 #[.pointer (some ⟨rb, 0, none⟩)] w (TwA rb a cap ts E i dp wb w) := by
  have hc := isfn_any rb a cap ts hl i hi dp wb w hR hT
  have htm := fun W h1 h2 => term_any18 rb a cap ts hG hl E F hE i hi dp wb h0 hdp hF W h1 h2
  have HFN : Hid (∀ (j : Nat) (W : World), i ≤ j → j ≤ ts.length → fnK (kdV ts j dp false) = true → Rdr W rb (.slice a ts.length cap) (j : Nat) dp false → IsTk rb W a ts →
      Calls Tryz.prog 85 #[.pointer (some ⟨rb, 0, none⟩)] W (FnA rb a cap ts (fnP E (decide (0 < dp)) (lx ts j)) j dp W)) := fun j W h1 h2 h3 h4 h5 => function_any rb a cap ts hG hl E F hE j h2 dp h0 (by omega) (by omega) h3 W h4 h5
  have HX : Hid (∀ (j : Nat) (wr : Bool) (W : World), i < j → j ≤ ts.length → Rdr W rb (.slice a ts.length cap) (j : Nat) dp wr → IsTk rb W a ts →
      Calls Tryz.prog 42 #[.pointer (some ⟨rb, 0, none⟩)] W (ExA rb a cap ts (E (decide (0 < dp)) (lx ts j)) j dp wr W)) :=
    fun j wr W h1 h2 h3 h4 => hE j dp wr W h2 h0 (by omega) (by omega) h3 h4
  have HR : Hid (Rdr w rb (.slice a ts.length cap) (i : Nat) dp wb) := hR
  have HT : Hid (IsTk rb w a ts) := hT
  have hbs : rb < w.heap.size := hR.lt
  rw [hk] at hc
  clear hR hT hE hk hG
  go_enter Tryz.func42, Tryz.ntmps42
  go_wp2_with fail
  refine hc.mono ?_
  rintro e w1 ⟨rfl, m, rfl⟩
  have HE1 : Hid (Exc rb w (w.drewN m)) := (Exc.refl rb w).drewN m
  have HR1 : Hid (Rdr (w.drewN m) rb (.slice a ts.length cap) (i : Nat) dp wb) := HR.out
  generalize w.drewN m = w1 at *
  clear hc
  go_wp2_with fail
  refine (htm w1 HR1.out (HT.out.go (HE1.out.below (by omega)))).mono ?_
  rintro e w2 ⟨u, j0, wr0, rfl, hu, hE2, hR2, hij0, hj0, hL0, hD0⟩
  have HE2 : Hid (Exc rb w w2) := HE1.out.trans hE2
  have HR2 : Hid (Rdr w2 rb (.slice a ts.length cap) (j0 : Int) dp wr0) := hR2
  have HT2 : Hid (IsTk rb w2 a ts) := HT.out.go (HE2.out.below (by omega))
  have hz1 : w.heap.size ≤ w1.heap.size := HE1.out.size
  have HL0 : Hid (u.oneCell' = true ∧ i ≤ j0 ∧ j0 ≤ ts.length ∧ (wb = false → ExL ts w.heap.size w2 u dp i j0 wr0 (tmP (E (decide (0 < dp))) (decide (0 < dp)) (lx ts i))) ∧ (kdV ts i dp wb = 0 → j0 = i ∧ wr0 = true)) := ⟨hu, hij0, hj0, fun h => (hL0 h).mono hz1, hD0⟩
  have hc := isfn_any rb a cap ts hl j0 hj0 dp wr0 w2 HR2.out HT2.out
  have hcu := one_cells hu
  have hau := one_agg hu
  clear hE2 hR2 hL0 hD0 htm hu
  by_cases hk : fnK (kdV ts j0 dp wr0) = true
  · obtain ⟨rfl, _, _⟩ := kdV_pos hj0 (show kdV ts j0 dp wr0 ≠ 0 by intro e; rw [e] at hk; exact absurd hk (by decide))
    have HK : Hid (fnK (kdV ts j0 dp false) = true) := hk
    rw [hk] at hc
    clear hk
    go_wp2_with fail
    refine hc.mono ?_
    rintro e w3 ⟨rfl, m3, rfl⟩
    have HE3 : Hid (Exc rb w2 (w2.drewN m3)) := (Exc.refl rb w2).drewN m3
    have HR3 : Hid (Rdr (w2.drewN m3) rb (.slice a ts.length cap) (j0 : Nat) dp false) := HR2.out
    have HT3 : Hid (IsTk rb (w2.drewN m3) a ts) := HT2.out
    have hz3 : w.heap.size ≤ (w2.drewN m3).heap.size := HE2.out.size
    generalize w2.drewN m3 = w3 at *
    clear hc
    go_wp2_with fail
    refine (HFN.out j0 w3 hij0 hj0 HK.out HR3.out HT3.out).mono ?_
    rintro e w4 ⟨x0, x1, x2, sa, n, sc, j1, wr1, rfl, hE4, hR4, hij, hj1, hL⟩
    have HE4 : Hid (Exc rb w2 w4) := HE3.out.trans hE4
    have HR4 : Hid (Rdr w4 rb (.slice a ts.length cap) (j1 : Int) dp wr1) := hR4
    have HL : Hid (FnL ts w3.heap.size w4 x0 x1 x2 sa n dp j1 wr1 (fnP E (decide (0 < dp)) (lx ts j0))) := hL
    clear hE4 hR4 hL
    go_wp2_with fail
    obtain ⟨w5, hw5⟩ : ∃ W, W = w4.alloc (.cells #[.int .i64 x0, .int .i64 x1, .int .i64 x2, .slice sa n sc] 119) := ⟨_, rfl⟩
    have HR5 : Hid (Rdr w5 rb (.slice a ts.length cap) (j1 : Int) dp wr1) := by rw [hw5]; exact HR4.out.al _
    have HE5 : Hid (Exc rb w4 w5) := by rw [hw5]; exact (Exc.refl rb w4).alloc _
    have HK5 : Hid (Kb4 119 w5 w4.heap.size (.int .i64 x0) (.int .i64 x1) (.int .i64 x2) (.slice sa n sc)) := by rw [hw5]; exact Kb4.new w4 _ _ _ _ _
    have HT5 : Hid (IsTk rb w5 a ts) := HT2.out.go ((HE4.out.trans HE5.out).below (by have := HR2.out.lt; omega))
    have hz4 : w.heap.size ≤ w4.heap.size := Nat.le_trans HE2.out.size HE4.out.size
    have hz5 : w4.heap.size < w5.heap.size := HK5.out.lt
    rw [← hw5]
    clear hw5
    have d0 := HK5.out.c0
    have d1 := HK5.out.c1
    have d2 := HK5.out.c2
    have d3 := HK5.out.c3
    have hi1 : i < j1 := by omega
    go_region_with (go_at_call 42; refine (HX.out j1 wr1 w5.drew hi1 hj1 HR5.out HT5.out).mono ?_; rintro e w6 ⟨v, j2, wr2, rfl, hv, hE6', hR6, hj12, hj2, hL6, hD6⟩; have hE6 : Exc rb w5 w6 := (Exc.refl rb w5).drew.trans hE6'; have HV : Hid (Exc rb w5 w6 ∧ Rdr w6 rb (.slice a ts.length cap) (j2 : Int) dp wr2 ∧ j1 ≤ j2 ∧ j2 ≤ ts.length ∧ (wr1 = false → ExL ts w5.heap.size w6 v dp j1 j2 wr2 (E (decide (0 < dp)) (lx ts j1))) ∧ (kdV ts j1 dp wr1 = 0 → j2 = j1 ∧ wr2 = true)) := ⟨hE6, hR6, hj12, hj2, hL6, hD6⟩; have K6 := HK5.out.exc hE6 (by omega); have e0 := K6.c0; have e1 := K6.c1; have e2 := K6.c2; have e3 := K6.c3; have hcv := one_cells hv; have hca := one_agg hv; clear hE6' hE6 hR6 hj12 hj2 hL6 hD6 K6)
    all_goals
      go_wp2_with fail
      go_ret
      exact ⟨u, j0, false, w2, HL0.out.1, HE2.out, HL0.out.2.1, HL0.out.2.2.1, HL0.out.2.2.2.1, HL0.out.2.2.2.2, (HE4.out.trans HE5.out).trans HV.out.1, .inr ⟨HK.out, x0, x1, x2, sa, n, sc, j1, wr1, v, j2, wr2, w4, w5, rfl, HV.out.2.1, hij, HV.out.2.2.1, HV.out.2.2.2.1, HL.out.mono hz3, HE5.out.trans HV.out.1, by omega, HV.out.2.2.2.2.1, HV.out.2.2.2.2.2⟩⟩
  · have hk' : fnK (kdV ts j0 dp wr0) = false := by simpa using hk
    have HK : Hid (fnK (kdV ts j0 dp wr0) = false) := hk'
    rw [hk'] at hc
    clear hk hk'
    go_wp2_with fail
    refine hc.mono ?_
    rintro e w3 ⟨rfl, m3, rfl⟩
    go_wp2_with fail
    go_ret
    exact ⟨u, j0, wr0, w2, HL0.out.1, HE2.out, HL0.out.2.1, HL0.out.2.2.1, HL0.out.2.2.2.1, HL0.out.2.2.2.2, (Exc.refl rb w2).drewN m3, .inl ⟨HK.out, rfl, HR2.out⟩⟩
end Go.Proofs.YtgjgbgllhbdodaaGreatDoor
