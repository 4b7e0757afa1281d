/-
  The reader of words: a function.
-/
import Derived.Test.YtgjgbgllhbdodaaGreatDoorTpi
namespace Go.Proofs.YtgjgbgllhbdodaaGreatDoor
open Go.RowKit Go.Lib
set_option linter.unusedVariables false

theorem fnA_gl {rb : Nat} {a : Option Addr} {cap : Nat} {ts : List TkA} {x0 x1 x2 : Int} {dp : Int} {i j : Nat} {wr : Bool} {x : Rf} {w w' : World} (hE : Exc rb w w') (hR : Rdr w' rb (.slice a ts.length cap) (j : Int) dp wr) (hij : i < j) (hj : j ≤ ts.length) (h : GlL ts x0 x1 x2 dp j wr x) : FnA rb a cap ts x i dp w (.returned (.agg #[.int .i64 x0, .int .i64 x1, .int .i64 x2, .slice none 0 0])) w' := by
  refine ⟨x0, x1, x2, none, 0, 0, j, wr, rfl, hE, hR, hij, hj, ?_⟩
  match x with
  | .ok ((ac, m, body), r) =>
    obtain ⟨h1, h2, h3, h4, h5⟩ := h
    exact ⟨h4, h5, h1, [], rfl, h3.symm, h2, RowW.nil _ _ _⟩
  | .error k => exact h
theorem jot_l {ts : List TkA} {i : Nat} {dp : Int} (hi : i ≤ ts.length) {j3 : Nat} {wr3 : Bool} (h3 : NxO ts i dp false 12 j3 wr3) (hj3 : j3 ≤ ts.length) {j4 : Nat} {wr4 : Bool} (h4 : NxO ts j3 dp wr3 4 j4 wr4) (hj4 : j4 ≤ ts.length) {y : Int} (hy : kdV ts j3 dp wr3 = 4 → y = (tkz ts j3).1.fn) : GlL ts 3 y 0 dp j4 wr4 (otP (lx ts i)) := by
  have dead : ∀ k, j3 = i → wr3 = true → k = ts.length - i → DedO ts j4 dp wr4 k := by
    rintro k rfl rfl hk
    obtain ⟨rfl, rfl⟩ := h4.2 (by rw [kdV_wr]; decide)
    exact DedO.of hj4 _ hk
  by_cases he : i = ts.length
  · rw [lx_end ts (by omega)]
    obtain ⟨e1, e2⟩ := h3.2 (by rw [kd_end ts he]; decide)
    exact dead 0 e1 e2 (by omega)
  have hlt : i < ts.length := by omega
  rw [lx_at ts hlt]
  simp only [otP]
  by_cases h12 : (tkz ts i).1.kind = 12
  · rw [if_pos h12]
    obtain ⟨rfl, rfl⟩ := h3.1 ((kd_iff hlt dp (by decide) (by decide)).2 h12)
    by_cases he2 : i + 1 = ts.length
    · rw [lx_end ts (by omega)]
      obtain ⟨rfl, rfl⟩ := h4.2 (by rw [kd_end ts he2]; decide)
      exact DedO.of hj4 _ (by omega)
    have hlt2 : i + 1 < ts.length := by omega
    rw [lx_at ts hlt2]
    simp only []
    have K := kd_iff hlt2 dp (k := 4) (by decide) (by decide)
    by_cases h4' : (tkz ts (i + 1)).1.kind = 4
    · rw [if_pos h4']
      obtain ⟨rfl, rfl⟩ := h4.1 (K.2 h4')
      exact ⟨by rw [← hy (K.2 h4')], rfl, rfl, rfl, rfl⟩
    · rw [if_neg h4']
      obtain ⟨rfl, rfl⟩ := h4.2 (fun e => h4' (K.1 e))
      exact DedO.of hj4 _ (by rw [lx_len]; omega)
  · rw [if_neg h12]
    obtain ⟨e1, e2⟩ := h3.2 (fun e => h12 ((kd_iff hlt dp (by decide) (by decide)).1 e))
    exact dead _ e1 e2 (by rw [lx_len]; omega)
theorem FnL.up {ts : List TkA} {lo lo' : Nat} {w w' : World} {x0 x1 x2 : Int} {sa : Option Addr} {n : Nat} {dp : Int} {j : Nat} {wr : Bool} {x : Rf} (h : FnL ts lo w x0 x1 x2 sa n dp j wr x) (hlo : lo' < lo) (hw : ∀ k, lo' < k → w'.heap[k]? = w.heap[k]?) (hs : w.heap.size ≤ w'.heap.size) : FnL ts lo' w' x0 x1 x2 sa n dp j wr x := by
  match x with
  | .ok ((ac, m, body), r) =>
    obtain ⟨h1, h2, h3, nss, h4, h5, h6, h7⟩ := h
    exact ⟨h1, h2, h3, nss, h4, h5, h6, (h7.go hs fun k _ hk => hw k (by omega)).mono fun k _ hk => by omega⟩
  | .error k => exact h
set_option maxRecDepth 100000 in
set_option maxHeartbeats 8000000 in
theorem fn_glyph (rb : Nat) (a : Option Addr) (cap : Nat) (ts : List TkA) (hG : RgT ts) (hl : ts.length ≤ 1000) (i : Nat) (hi : i ≤ ts.length) (dp : Int) (hk : kdV ts i dp false = 4)
    (w : World) (hR : Rdr w rb (.slice a ts.length cap) (i : Nat) dp false) (hT : IsTk rb w a ts) :
    Calls Tryz.prog 85 #[.pointer (some ⟨rb, 0, none⟩)] w (FnA rb a cap ts (glP (tkz ts i).1.fn (lx ts (i + 1))) i dp w) := by
  have hc := fun W h1 h2 => kind_any rb a cap ts hl i hi dp false W h1 h2
  have hg := fun W h1 h2 => glyphs_any rb a cap ts hG hl i hi dp hk W h1 h2
  have HR : Hid (Rdr w rb (.slice a ts.length cap) (i : Nat) dp false) := hR
  have HT : Hid (IsTk rb w a ts) := hT
  have hbs : rb < w.heap.size := hR.lt
  rw [hk] at hc
  clear hR hT hk hG
  have HK0 : Hid (Kb4 119 (w.alloc (.cells #[.int .i64 0, .int .i64 0, .int .i64 0, .slice none 0 0] 119)) w.heap.size (.int .i64 0) (.int .i64 0) (.int .i64 0) (.slice none 0 0)) := Kb4.new w _ _ _ _ _
  have HE0 : Hid (Exc rb w (w.alloc (.cells #[.int .i64 0, .int .i64 0, .int .i64 0, .slice none 0 0] 119))) := (Exc.refl rb w).alloc _
  have HR0 : Hid (Rdr (w.alloc (.cells #[.int .i64 0, .int .i64 0, .int .i64 0, .slice none 0 0] 119)) rb (.slice a ts.length cap) (i : Nat) dp false) := HR.out.al _
  go_enter Tryz.func85, Tryz.ntmps85
  go_wp2_with fail
  generalize (w.alloc (.cells #[.int .i64 0, .int .i64 0, .int .i64 0, .slice none 0 0] 119)) = W0 at *
  refine (hc W0 HR0.out (HT.out.go (HE0.out.below (by omega)))).mono ?_
  rintro e w1 ⟨rfl, m, rfl⟩
  have HE1 : Hid (Exc rb w (W0.drewN m)) := HE0.out.drewN m
  have HK1 : Hid (Kb4 119 (W0.drewN m) w.heap.size (.int .i64 0) (.int .i64 0) (.int .i64 0) (.slice none 0 0)) := HK0.out
  have HR1 : Hid (Rdr (W0.drewN m) rb (.slice a ts.length cap) (i : Nat) dp false) := HR0.out
  generalize W0.drewN m = w1 at *
  clear HE0 HK0 HR0 hc
  go_wp2_with fail
  refine (hg w1 HR1.out (HT.out.go (HE1.out.below (by omega)))).mono ?_
  rintro e w2 ⟨x0, x1, x2, j, wr, rfl, hE2, hR2, hij, hj, hL⟩
  have HE2 : Hid (Exc rb w w2) := HE1.out.trans hE2
  have HK2 : Hid (Kb4 119 w2 w.heap.size (.int .i64 0) (.int .i64 0) (.int .i64 0) (.slice none 0 0)) := HK1.out.exc hE2 (by omega)
  have HR2 : Hid (Rdr w2 rb (.slice a ts.length cap) (j : Int) dp wr) := hR2
  have HL : Hid (GlL ts x0 x1 x2 dp j wr (glP (tkz ts i).1.fn (lx ts (i + 1)))) := hL
  clear hE2 hR2 hL hg
  have d0 := HK2.out.c0
  have f0 := HK2.out.fr 0
  have d1 := HK2.out.c1
  have f1 := HK2.out.fr 1
  have d2 := HK2.out.c2
  have f2 := HK2.out.fr 2
  have d3 := HK2.out.c3
  have f3 := HK2.out.fr 3
  go_wp2_with fail
  have F := HK2.out.set (.int .i64 x0) (.int .i64 x1) (.int .i64 x2) (.slice none 0 0)
  have g0 := F.c0
  have g1 := F.c1
  have g2 := F.c2
  have g3 := F.c3
  exact bodyPost_ret (v := .agg #[.int .i64 x0, .int .i64 x1, .int .i64 x2, .slice none 0 0]) (by simp [results, Tryz.results85, go_sem, g0, g1, g2, g3]) rfl (fnA_gl (exc_set4 HE2.out (Nat.le_refl _) _ _ _ _) (HR2.out.set4 (by omega) _ _ _ _) hij hj HL.out)
set_option maxRecDepth 100000 in
set_option maxHeartbeats 8000000 in
theorem fn_del (rb : Nat) (a : Option Addr) (cap : Nat) (ts : List TkA) (hG : RgT ts) (hl : ts.length ≤ 1000) (i : Nat) (hi : i ≤ ts.length) (dp : Int) (hk : kdV ts i dp false = 20)
    (w : World) (hR : Rdr w rb (.slice a ts.length cap) (i : Nat) dp false) (hT : IsTk rb w a ts) :
    Calls Tryz.prog 85 #[.pointer (some ⟨rb, 0, none⟩)] w (FnA rb a cap ts (.ok ((⟨7, 0, 0⟩, 0, []), lx ts (i + 1))) i dp w) := by
  have hc := fun W h1 h2 => kind_any rb a cap ts hl i hi dp false W h1 h2
  have hg := fun W h1 h2 => next_yes 20 rb a cap ts hl i hi dp false hk (by decide) W h1 h2
  have hlt : i + 1 ≤ ts.length := (kdV_pos hi (by rw [hk]; decide)).2.1
  have HR : Hid (Rdr w rb (.slice a ts.length cap) (i : Nat) dp false) := hR
  have HT : Hid (IsTk rb w a ts) := hT
  have hbs : rb < w.heap.size := hR.lt
  rw [hk] at hc
  clear hR hT hk hG
  have HK0 : Hid (Kb4 119 (w.alloc (.cells #[.int .i64 0, .int .i64 0, .int .i64 0, .slice none 0 0] 119)) w.heap.size (.int .i64 0) (.int .i64 0) (.int .i64 0) (.slice none 0 0)) := Kb4.new w _ _ _ _ _
  have HE0 : Hid (Exc rb w (w.alloc (.cells #[.int .i64 0, .int .i64 0, .int .i64 0, .slice none 0 0] 119))) := (Exc.refl rb w).alloc _
  have HR0 : Hid (Rdr (w.alloc (.cells #[.int .i64 0, .int .i64 0, .int .i64 0, .slice none 0 0] 119)) rb (.slice a ts.length cap) (i : Nat) dp false) := HR.out.al _
  go_enter Tryz.func85, Tryz.ntmps85
  go_wp2_with fail
  generalize (w.alloc (.cells #[.int .i64 0, .int .i64 0, .int .i64 0, .slice none 0 0] 119)) = W0 at *
  refine (hc W0 HR0.out (HT.out.go (HE0.out.below (by omega)))).mono ?_
  rintro e w1 ⟨rfl, m, rfl⟩
  have HE1 : Hid (Exc rb w (W0.drewN m)) := HE0.out.drewN m
  have HK1 : Hid (Kb4 119 (W0.drewN m) w.heap.size (.int .i64 0) (.int .i64 0) (.int .i64 0) (.slice none 0 0)) := HK0.out
  have HR1 : Hid (Rdr (W0.drewN m) rb (.slice a ts.length cap) (i : Nat) dp false) := HR0.out
  generalize W0.drewN m = w1 at *
  clear HE0 HK0 HR0 hc
  go_wp2_with fail
  refine (hg w1 HR1.out (HT.out.go (HE1.out.below (by omega)))).mono ?_
  rintro e w2 ⟨rfl, hR2, hE2⟩
  have HE2 : Hid (Exc rb w w2) := HE1.out.trans hE2
  have HK2 : Hid (Kb4 119 w2 w.heap.size (.int .i64 0) (.int .i64 0) (.int .i64 0) (.slice none 0 0)) := HK1.out.exc hE2 (by omega)
  have HR2 : Hid (Rdr w2 rb (.slice a ts.length cap) ((i + 1 : Nat) : Int) dp false) := hR2
  clear hE2 hR2 hg
  have d0 := HK2.out.c0
  have f0 := HK2.out.fr 0
  have d1 := HK2.out.c1
  have f1 := HK2.out.fr 1
  have d2 := HK2.out.c2
  have f2 := HK2.out.fr 2
  have d3 := HK2.out.c3
  have f3 := HK2.out.fr 3
  go_wp2_with fail
  have F := HK2.out.set (.int .i64 7) (.int .i64 0) (.int .i64 0) (.slice none 0 0)
  have g0 := F.c0
  have g1 := F.c1
  have g2 := F.c2
  have g3 := F.c3
  exact bodyPost_ret (v := .agg #[.int .i64 7, .int .i64 0, .int .i64 0, .slice none 0 0]) (by simp [results, Tryz.results85, go_sem, g0, g1, g2, g3]) rfl (fnA_gl (exc_set4 HE2.out (Nat.le_refl _) _ _ _ _) (HR2.out.set4 (by omega) _ _ _ _) (by omega) hlt ⟨rfl, rfl, rfl, rfl, rfl⟩)
set_option maxRecDepth 100000 in
set_option maxHeartbeats 8000000 in
theorem fn_jot (rb : Nat) (a : Option Addr) (cap : Nat) (ts : List TkA) (hG : RgT ts) (hl : ts.length ≤ 1000) (i : Nat) (hi : i ≤ ts.length) (dp : Int) (hk : kdV ts i dp false = 11)
    (w : World) (hR : Rdr w rb (.slice a ts.length cap) (i : Nat) dp false) (hT : IsTk rb w a ts) :
    Calls Tryz.prog 85 #[.pointer (some ⟨rb, 0, none⟩)] w (FnA rb a cap ts (otP (lx ts (i + 1))) i dp w) := by
  have hc := fun W h1 h2 => kind_any rb a cap ts hl i hi dp false W h1 h2
  have hg := fun W h1 h2 => next_yes 11 rb a cap ts hl i hi dp false hk (by decide) W h1 h2
  have hlt : i + 1 ≤ ts.length := (kdV_pos hi (by rw [hk]; decide)).2.1
  have HR : Hid (Rdr w rb (.slice a ts.length cap) (i : Nat) dp false) := hR
  have HT : Hid (IsTk rb w a ts) := hT
  have hbs : rb < w.heap.size := hR.lt
  rw [hk] at hc
  clear hR hT hk hG
  have HK0 : Hid (Kb4 119 (w.alloc (.cells #[.int .i64 0, .int .i64 0, .int .i64 0, .slice none 0 0] 119)) w.heap.size (.int .i64 0) (.int .i64 0) (.int .i64 0) (.slice none 0 0)) := Kb4.new w _ _ _ _ _
  have HE0 : Hid (Exc rb w (w.alloc (.cells #[.int .i64 0, .int .i64 0, .int .i64 0, .slice none 0 0] 119))) := (Exc.refl rb w).alloc _
  have HR0 : Hid (Rdr (w.alloc (.cells #[.int .i64 0, .int .i64 0, .int .i64 0, .slice none 0 0] 119)) rb (.slice a ts.length cap) (i : Nat) dp false) := HR.out.al _
  go_enter Tryz.func85, Tryz.ntmps85
  go_wp2_with fail
  generalize (w.alloc (.cells #[.int .i64 0, .int .i64 0, .int .i64 0, .slice none 0 0] 119)) = W0 at *
  refine (hc W0 HR0.out (HT.out.go (HE0.out.below (by omega)))).mono ?_
  rintro e w1 ⟨rfl, m, rfl⟩
  have HE1 : Hid (Exc rb w (W0.drewN m)) := HE0.out.drewN m
  have HK1 : Hid (Kb4 119 (W0.drewN m) w.heap.size (.int .i64 0) (.int .i64 0) (.int .i64 0) (.slice none 0 0)) := HK0.out
  have HR1 : Hid (Rdr (W0.drewN m) rb (.slice a ts.length cap) (i : Nat) dp false) := HR0.out
  generalize W0.drewN m = w1 at *
  clear HE0 HK0 HR0 hc
  go_wp2_with fail
  refine (hg w1 HR1.out (HT.out.go (HE1.out.below (by omega)))).mono ?_
  rintro e w2 ⟨rfl, hR2, hE2⟩
  have HE2 : Hid (Exc rb w w2) := HE1.out.trans hE2
  have HK2 : Hid (Kb4 119 w2 w.heap.size (.int .i64 0) (.int .i64 0) (.int .i64 0) (.slice none 0 0)) := HK1.out.exc hE2 (by omega)
  have HR2 : Hid (Rdr w2 rb (.slice a ts.length cap) ((i + 1 : Nat) : Int) dp false) := hR2
  clear hE2 hR2 hg
  go_wp2_with fail
  refine (next_any18 12 (by decide) rb a cap ts hl (i + 1) hlt dp false w2 HR2.out (HT.out.go (HE2.out.below (by omega)))).mono ?_
  rintro e w3 ⟨x0, x1, x2, tx, x4, j3, wr3, rfl, hR3, hE3, hj3a, hj3, hN, _⟩
  have HE3 : Hid (Exc rb w w3) := HE2.out.trans hE3
  have HK3 : Hid (Kb4 119 w3 w.heap.size (.int .i64 0) (.int .i64 0) (.int .i64 0) (.slice none 0 0)) := HK2.out.exc hE3 (by omega)
  have HR3 : Hid (Rdr w3 rb (.slice a ts.length cap) (j3 : Int) dp wr3) := hR3
  have HN3 : Hid (NxO ts (i + 1) dp false 12 j3 wr3) := hN
  clear hE3 hR3 hN
  go_wp2_with fail
  refine (next_any18 4 (by decide) rb a cap ts hl j3 hj3 dp wr3 w3 HR3.out (HT.out.go (HE3.out.below (by omega)))).mono ?_
  rintro e w4 ⟨y0, y1, y2, ty, y4, j4, wr4, rfl, hR4, hE4, hj4a, hj4, hN, hfn⟩
  have HE4 : Hid (Exc rb w w4) := HE3.out.trans hE4
  have HK4 : Hid (Kb4 119 w4 w.heap.size (.int .i64 0) (.int .i64 0) (.int .i64 0) (.slice none 0 0)) := HK3.out.exc hE4 (by omega)
  have HR4 : Hid (Rdr w4 rb (.slice a ts.length cap) (j4 : Int) dp wr4) := hR4
  have HN4 : Hid (NxO ts j3 dp wr3 4 j4 wr4 ∧ (kdV ts j3 dp wr3 = 4 → y1 = (tkz ts j3).1.fn)) := ⟨hN, hfn⟩
  clear hE4 hR4 hN hfn
  have hfl2 := fld_fn y0 y1 y2 ty y4
  have d0 := HK4.out.c0
  have f0 := HK4.out.fr 0
  have d1 := HK4.out.c1
  have f1 := HK4.out.fr 1
  have d2 := HK4.out.c2
  have f2 := HK4.out.fr 2
  have d3 := HK4.out.c3
  have f3 := HK4.out.fr 3
  go_wp2_with fail
  have F := HK4.out.set (.int .i64 3) (.int .i64 y1) (.int .i64 0) (.slice none 0 0)
  have g0 := F.c0
  have g1 := F.c1
  have g2 := F.c2
  have g3 := F.c3
  exact bodyPost_ret (v := .agg #[.int .i64 3, .int .i64 y1, .int .i64 0, .slice none 0 0]) (by simp [results, Tryz.results85, go_sem, g0, g1, g2, g3]) rfl (fnA_gl (exc_set4 HE4.out (Nat.le_refl _) _ _ _ _) (HR4.out.set4 (by omega) _ _ _ _) (by omega) hj4 (jot_l hlt HN3.out hj3 HN4.out.1 hj4 HN4.out.2))
set_option maxRecDepth 100000 in
set_option maxHeartbeats 8000000 in
theorem fn_body (rb : Nat) (a : Option Addr) (cap : Nat) (ts : List TkA) (hG : RgT ts) (hl : ts.length ≤ 1000) (i : Nat) (hi : i ≤ ts.length) (dp : Int) (hk : kdV ts i dp false = 14) (E : Bool → List Tk → Rp) (F : Nat) (hE : EcP rb a cap ts E F) (h0 : 0 ≤ dp) (hdp : dp ≤ i) (hF : ts.length - i ≤ F)
    (w : World) (hR : Rdr w rb (.slice a ts.length cap) (i : Nat) dp false) (hT : IsTk rb w a ts) :
    Calls Tryz.prog 85 #[.pointer (some ⟨rb, 0, none⟩)] w (FnA rb a cap ts (bdP (E true) ((lx ts (i + 1)).length + 1) (lx ts (i + 1)) [] 0) i dp w) := by
  have hc := fun W h1 h2 => kind_any rb a cap ts hl i hi dp false W h1 h2
  have hg := fun W h1 h2 => body_any rb a cap ts hG hl E F hE i hi dp h0 hdp hF hk W h1 h2
  generalize bdP (E true) ((lx ts (i + 1)).length + 1) (lx ts (i + 1)) [] 0 = T at *
  have HR : Hid (Rdr w rb (.slice a ts.length cap) (i : Nat) dp false) := hR
  have HT : Hid (IsTk rb w a ts) := hT
  have hbs : rb < w.heap.size := hR.lt
  rw [hk] at hc
  clear hR hT hk hG hE hF
  have HK0 : Hid (Kb4 119 (w.alloc (.cells #[.int .i64 0, .int .i64 0, .int .i64 0, .slice none 0 0] 119)) w.heap.size (.int .i64 0) (.int .i64 0) (.int .i64 0) (.slice none 0 0)) := Kb4.new w _ _ _ _ _
  have HE0 : Hid (Exc rb w (w.alloc (.cells #[.int .i64 0, .int .i64 0, .int .i64 0, .slice none 0 0] 119))) := (Exc.refl rb w).alloc _
  have HR0 : Hid (Rdr (w.alloc (.cells #[.int .i64 0, .int .i64 0, .int .i64 0, .slice none 0 0] 119)) rb (.slice a ts.length cap) (i : Nat) dp false) := HR.out.al _
  go_enter Tryz.func85, Tryz.ntmps85
  go_wp2_with fail
  generalize (w.alloc (.cells #[.int .i64 0, .int .i64 0, .int .i64 0, .slice none 0 0] 119)) = W0 at *
  refine (hc W0 HR0.out (HT.out.go (HE0.out.below (by omega)))).mono ?_
  rintro e w1 ⟨rfl, m, rfl⟩
  have HE1 : Hid (Exc rb w (W0.drewN m)) := HE0.out.drewN m
  have HK1 : Hid (Kb4 119 (W0.drewN m) w.heap.size (.int .i64 0) (.int .i64 0) (.int .i64 0) (.slice none 0 0)) := HK0.out
  have HR1 : Hid (Rdr (W0.drewN m) rb (.slice a ts.length cap) (i : Nat) dp false) := HR0.out
  generalize W0.drewN m = w1 at *
  clear HE0 HK0 HR0 hc
  go_wp2_with fail
  refine (hg w1 HR1.out (HT.out.go (HE1.out.below (by omega)))).mono ?_
  rintro e w2 ⟨sa, n, sc, j, wr, rfl, hE2, hR2, hij, hj, hL⟩
  have hz : w.heap.size ≤ w1.heap.size := HE1.out.size
  have HE2 : Hid (Exc rb w w2) := HE1.out.trans hE2
  have HK2 : Hid (Kb4 119 w2 w.heap.size (.int .i64 0) (.int .i64 0) (.int .i64 0) (.slice none 0 0)) := HK1.out.exc hE2 (by omega)
  have HR2 : Hid (Rdr w2 rb (.slice a ts.length cap) (j : Int) dp wr) := hR2
  have HB : Hid (w.heap.size < w1.heap.size) := HK1.out.lt
  have HL : Hid (FnL ts w1.heap.size w2 6 0 0 sa n dp j wr T) := hL
  clear hE2 hR2 hL hg
  have d0 := HK2.out.c0
  have f0 := HK2.out.fr 0
  have d1 := HK2.out.c1
  have f1 := HK2.out.fr 1
  have d2 := HK2.out.c2
  have f2 := HK2.out.fr 2
  have d3 := HK2.out.c3
  have f3 := HK2.out.fr 3
  go_wp2_with fail
  have F := HK2.out.set (.int .i64 6) (.int .i64 0) (.int .i64 0) (.slice sa n sc)
  have g0 := F.c0
  have g1 := F.c1
  have g2 := F.c2
  have g3 := F.c3
  exact bodyPost_ret (v := .agg #[.int .i64 6, .int .i64 0, .int .i64 0, .slice sa n sc]) (by simp [results, Tryz.results85, go_sem, g0, g1, g2, g3]) rfl (⟨6, 0, 0, sa, n, sc, j, wr, rfl, exc_set4 HE2.out (Nat.le_refl _) _ _ _ _, HR2.out.set4 (by omega) _ _ _ _, hij, hj, HL.out.up HB.out (fun k hk => by rw [Below.heap_setCell _ _ _ _ (by simp; omega), Below.heap_setCell _ _ _ _ (by simp; omega), Below.heap_setCell _ _ _ _ (by simp; omega), Below.heap_setCell _ _ _ _ (by simp; omega)]) (by simp [World.setCell])⟩)
/-- What reading a function tells. -/
theorem function_any (rb : Nat) (a : Option Addr) (cap : Nat) (ts : List TkA) (hG : RgT ts) (hl : ts.length ≤ 1000) (E : Bool → List Tk → Rp) (F : Nat) (hE : EcP rb a cap ts E F) (i : Nat) (hi : i ≤ ts.length) (dp : Int) (h0 : 0 ≤ dp) (hdp : dp ≤ i) (hF : ts.length - i ≤ F) (hk : fnK (kdV ts i dp false) = true)
    (w : World) (hR : Rdr w rb (.slice a ts.length cap) (i : Nat) dp false) (hT : IsTk rb w a ts) :
    Calls Tryz.prog 85 #[.pointer (some ⟨rb, 0, none⟩)] w (FnA rb a cap ts (fnP E (decide (0 < dp)) (lx ts i)) i dp w) := by
  have hk' : kdV ts i dp false = 4 ∨ kdV ts i dp false = 11 ∨ kdV ts i dp false = 14 ∨ kdV ts i dp false = 20 := by simpa [fnK, or_assoc] using hk
  obtain ⟨_, hlt, hkd⟩ := kdV_pos (dp := dp) (wr := false) hi (by omega)
  rw [lx_at ts hlt]
  simp only [fnP]
  rcases hk' with h | h | h | h
  · rw [if_pos (by rw [← hkd, h])]; exact fn_glyph rb a cap ts hG hl i hi dp h w hR hT
  · rw [if_neg (by rw [← hkd, h]; decide), if_pos (by rw [← hkd, h])]; exact fn_jot rb a cap ts hG hl i hi dp h w hR hT
  · rw [if_neg (by rw [← hkd, h]; decide), if_neg (by rw [← hkd, h]; decide), if_neg (by rw [← hkd, h]; simp), if_pos (by rw [← hkd, h])]
    exact fn_body rb a cap ts hG hl i hi dp h E F hE h0 hdp hF w hR hT
  · have hd : 0 < dp := by
      have : dp ≠ 0 := by
        rintro rfl
        have hkd' : (tkz ts i).1.kind = 20 := by rw [← hkd, h]
        unfold kdV at h
        rw [if_neg (by simp; omega), if_pos ⟨.inr (.inr hkd'), rfl⟩] at h
        exact absurd h (by decide)
      omega
    rw [if_neg (by rw [← hkd, h]; decide), if_neg (by rw [← hkd, h]; decide), if_pos ⟨by rw [← hkd, h], decide_eq_true hd⟩]
    exact fn_del rb a cap ts hG hl i hi dp h w hR hT
end Go.Proofs.YtgjgbgllhbdodaaGreatDoor
