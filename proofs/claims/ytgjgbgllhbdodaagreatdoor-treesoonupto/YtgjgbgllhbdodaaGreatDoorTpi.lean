/-
  The reader of words: what is written out.
-/
import Derived.Test.YtgjgbgllhbdodaaGreatDoorTph
namespace Go.Proofs.YtgjgbgllhbdodaaGreatDoor
open Go.RowKit Go.Lib
set_option linter.unusedVariables false

theorem one_cells {v : Value} (h : v.oneCell' = true) : v.cells = #[v] := by
  cases v <;> first | rfl | (simp [Value.oneCell'] at h)
theorem one_agg {v : Value} (h : v.oneCell' = true) : ∀ cs, v = .agg cs → False := by
  rintro cs rfl; exact absurd h (by simp [Value.oneCell'])
/-- Behind an expression of what is written out. -/
def bdK (E : List Tk → Rp) (f : Nat) (acc : List Nod) (n : Int) : Rp → Rf
  | .error k => .error k
  | .ok (ns, []) => .error 0
  | .ok (ns, t :: r) =>
    if t.kind = 15 then .ok ((⟨6, 0, 0⟩, n, acc ++ ns), r)
    else if t.kind = 16 then
      match E r with
      | .error k => .error k
      | .ok (ms, []) => .error 0
      | .ok (ms, u :: s) => if u.kind = 17 then bdP E f s (acc ++ ns ++ ms) (n + 1) else .error (s.length + 1)
    else .error (r.length + 1)
theorem bdP_K (E : List Tk → Rp) (f : Nat) (ts : List Tk) (acc : List Nod) (n : Int) : bdP E (f + 1) ts acc n = bdK E f acc n (E ts) := by
  simp only [bdP]
  match E ts with
  | .error k => rfl
  | .ok (ns, []) => rfl
  | .ok (ns, t :: r) => rfl
def BdI (ts : List TkA) (E : List Tk → Rp) (lo : Nat) (T : Rf) (dp : Int) (j : Nat) (wr : Bool) (w : World) (v : Value) (n : Nat) (vs : List Value) : Prop :=
  (wr = false ∧ ∃ (f : Nat) (acc : List Nod) (m : Int) (ns : List Nod) (nss : List (List Nod)), T = bdK E f acc m (.ok (ns, lx ts j)) ∧ ts.length - j ≤ f ∧ nss.flatten = acc ++ ns ∧ (n : Int) = 2 * m + 1 ∧ 0 ≤ m ∧ GrP (fun k => lo ≤ k) w v n vs nss) ∨
  (∃ k, T = .error k ∧ DedO ts j dp wr k)
/-- What is told where it ends. -/
theorem BdI.fin {ts : List TkA} {E : List Tk → Rp} {lo : Nat} {T : Rf} {dp : Int} {j : Nat} {wr : Bool} {w : World} {sa : Option Addr} {sc : Nat} {n : Nat} {vs : List Value} (h : BdI ts E lo T (dp + 1) j wr w (.slice sa n sc) n vs) (hO : OwnV lo w (.slice sa n sc) n vs)
    (hd : 0 ≤ dp) (hj : j ≤ ts.length) (hk : kdV ts j (dp + 1) wr ≠ 16) {j' : Nat} {wr' : Bool} (hN : NxO ts j (dp + 1) wr 15 j' wr') {w' : World} (hE : ∀ nss, RowW (fun k => lo ≤ k) w sa nss → RowW (fun k => lo ≤ k) w' sa nss) : FnL ts lo w' 6 0 0 sa n dp j' wr' T := by
  rcases h with ⟨rfl, f, acc, m, ns, nss, hT, hf, hfl, hn, hm, hG⟩ | ⟨k, hT, h1, h2, h3⟩
  · by_cases he : j = ts.length
    · rw [lx_end ts (by omega)] at hT
      subst hT
      obtain ⟨rfl, rfl⟩ := hN.2 (by rw [kd_end ts he]; decide)
      exact DedO.of hj _ (by omega)
    have hlt : j < ts.length := by omega
    rw [lx_at ts hlt] at hT
    simp only [bdK] at hT
    have K := fun k h0 => kd_iff hlt (dp + 1) (k := k) h0
    by_cases h15 : (tkz ts j).1.kind = 15
    · rw [if_pos h15] at hT
      subst hT
      obtain ⟨rfl, rfl⟩ := hN.1 ((K 15 (by decide) (by decide)).2 h15)
      refine ⟨rfl, rfl, rfl, nss, hG.1, hfl, ?_, hE _ (hG.row hO fun k hk => hk)⟩
      omega
    · rw [if_neg h15, if_neg (fun e => hk ((K 16 (by decide) (by decide)).2 e))] at hT
      subst hT
      obtain ⟨rfl, rfl⟩ := hN.2 (fun e => h15 ((K 15 (by decide) (by decide)).1 e))
      exact DedO.of hj _ (by rw [lx_len]; omega)
  · subst hT
    obtain ⟨rfl, rfl⟩ := hN.2 (by rw [h2]; decide)
    exact DedO.of hj _ (by omega)
/-- What is told behind a condition and its value. -/
theorem BdI.step {ts : List TkA} {E : List Tk → Rp} {lo : Nat} {T : Rf} {dp : Int} {j : Nat} {w : World} {v : Value} {n : Nat} {vs : List Value} (h : BdI ts E lo T dp j false w v n vs) (hd : 0 < dp) (hj : j ≤ ts.length) (hk : kdV ts j dp false = 16)
    {j2 j3 j4 : Nat} {wr2 wr3 wr4 : Bool} {w3 w4 w6 w7 : World} {v2 v3 v7 : Value}
    (h2 : ExL ts w3.heap.size w4 v2 dp (j + 1) j2 wr2 (E (lx ts (j + 1)))) (hj2 : j + 1 ≤ j2 ∧ j2 ≤ ts.length) (hN : NxO ts j2 dp wr2 17 j3 wr3) (hj3 : j3 ≤ ts.length)
    (h3 : wr3 = false → ExL ts w6.heap.size w7 v3 dp j3 j4 wr4 (E (lx ts j3))) (h3' : kdV ts j3 dp wr3 = 0 → j4 = j3 ∧ wr4 = true) (hj4 : j3 ≤ j4 ∧ j4 ≤ ts.length)
    {wz : World} (hG : ∀ nss ms ks, GrP (fun k => lo ≤ k) w v n vs nss → PartW (fun k => w3.heap.size ≤ k) w4 v2 ms → PartW (fun k => w6.heap.size ≤ k) w7 v3 ks → GrP (fun k => lo ≤ k) wz v7 (n + 1 + 1) (vs ++ [v2] ++ [v3]) (nss ++ [ms] ++ [ks])) :
    BdI ts E lo T dp j4 wr4 wz v7 (n + 1 + 1) (vs ++ [v2] ++ [v3]) := by
  rcases h with ⟨_, f, acc, m, ns, nss, hT, hf, hfl, hn, hm, hG0⟩ | ⟨k, hT, h1, h2', h3''⟩
  rotate_left
  · rw [hk] at h2'; exact absurd h2' (by decide)
  obtain ⟨_, hlt, hkd⟩ := kdV_pos hj (by rw [hk]; decide)
  rw [hk] at hkd
  rw [lx_at ts hlt] at hT
  simp only [bdK] at hT
  rw [if_neg (by rw [← hkd]; decide), if_pos hkd.symm] at hT
  have dead : ∀ k, T = .error k → k = ts.length - j3 → wr3 = true → BdI ts E lo T dp j4 wr4 wz v7 (n + 1 + 1) (vs ++ [v2] ++ [v3]) := by
    intro k e1 e2 e3
    subst e3
    obtain ⟨rfl, rfl⟩ := h3' (kdV_wr _ _ _)
    exact .inr ⟨k, e1, DedO.of hj3 _ e2⟩
  match e : E (lx ts (j + 1)) with
  | .error k =>
    rw [e] at h2 hT
    obtain ⟨q1, q2, q3⟩ := h2
    obtain ⟨rfl, rfl⟩ := hN.2 (by rw [q2]; decide)
    exact dead k hT (by omega) rfl
  | .ok (ms, r) =>
    rw [e] at h2 hT
    obtain ⟨rfl, q1, rfl, q2⟩ := h2
    by_cases he : j2 = ts.length
    · rw [lx_end ts (by omega)] at hT
      obtain ⟨rfl, rfl⟩ := hN.2 (by rw [kd_end ts he]; decide)
      exact dead 0 hT (by omega) rfl
    have hlt2 : j2 < ts.length := by omega
    rw [lx_at ts hlt2] at hT
    simp only [] at hT
    have K := kd_iff hlt2 dp (k := 17) (by decide) (by decide)
    by_cases h17 : (tkz ts j2).1.kind = 17
    · rw [if_pos h17] at hT
      obtain ⟨rfl, rfl⟩ := hN.1 (K.2 h17)
      obtain ⟨f', rfl⟩ : ∃ f', f = f' + 1 := ⟨f - 1, by omega⟩
      rw [bdP_K] at hT
      have h4 := h3 rfl
      match e4 : E (lx ts (j2 + 1)) with
      | .error k =>
        rw [e4] at h4 hT
        exact .inr ⟨k, hT, h4⟩
      | .ok (ks, r4) =>
        rw [e4] at h4 hT
        obtain ⟨rfl, q3, rfl, q4⟩ := h4
        refine .inl ⟨rfl, f', _, _, ks, nss ++ [ms] ++ [ks], hT, by omega, ?_, by omega, by omega, hG nss ms ks hG0 q2 q4⟩
        simp [hfl]
    · rw [if_neg h17] at hT
      obtain ⟨rfl, rfl⟩ := hN.2 (fun e => h17 (K.1 e))
      exact dead _ hT (by rw [lx_len]; omega) rfl
set_option maxRecDepth 100000 in
set_option maxHeartbeats 8000000 in
theorem body_any (rb : Nat) (a : Option Addr) (cap : Nat) (ts : List TkA) (hG : RgT ts) (hl : ts.length ≤ 1000) (E : Bool → List Tk → Rp) (F : Nat) (hE : EcP rb a cap ts E F) (i : Nat) (hi : i ≤ ts.length) (dp : Int) (h0 : 0 ≤ dp) (hdp : dp ≤ i) (hF : ts.length - i ≤ F) (hk : kdV ts i dp false = 14)
    (w : World) (hR : Rdr w rb (.slice a ts.length cap) (i : Nat) dp false) (hT : IsTk rb w a ts) :
    Calls Tryz.prog 125 #[.pointer (some ⟨rb, 0, none⟩)] w (BdA rb a cap ts (bdP (E true) ((lx ts (i + 1)).length + 1) (lx ts (i + 1)) [] 0) i dp w) := by
  obtain ⟨_, hlt, _⟩ := kdV_pos hi (by rw [hk]; decide)
  have HR : Hid (Rdr w rb (.slice a ts.length cap) (i : Nat) dp false) := hR
  have HT : Hid (IsTk rb w a ts) := hT
  have hbs : rb < w.heap.size := hR.lt
  have hn := next_yes 14 rb a cap ts hl i hi dp false hk (by decide) w hR hT
  have HX : Hid (∀ (j : Nat) (wr : Bool) (W : World), i < j → j ≤ ts.length → Rdr W rb (.slice a ts.length cap) (j : Nat) (dp + 1) wr → IsTk rb W a ts →
      Calls Tryz.prog 42 #[.pointer (some ⟨rb, 0, none⟩)] W (ExA rb a cap ts (E true (lx ts j)) j (dp + 1) wr W)) := by
    intro j wr W h1 h2 h3 h4
    have := hE j (dp + 1) wr W h2 (by omega) (by omega) (by omega) h3 h4
    rwa [show decide (0 < dp + 1) = true from decide_eq_true (by omega)] at this
  obtain ⟨T, hTe⟩ : ∃ T, T = bdP (E true) ((lx ts (i + 1)).length + 1) (lx ts (i + 1)) [] 0 := ⟨_, rfl⟩
  rw [← hTe]
  rw [bdP_K] at hTe
  have HTe : Hid (T = bdK (E true) (lx ts (i + 1)).length [] 0 (E true (lx ts (i + 1)))) := hTe
  have hdl : dp ≤ 1000 := by omega
  have HG : Hid (RgT ts) := hG
  clear hTe hE hR hT hk hF hG
  go_enter Tryz.func125, Tryz.ntmps125
  go_wp2_with fail
  refine hn.mono ?_
  rintro e w1 ⟨rfl, hR1, hE1⟩
  have HR1 : Hid (Rdr w1 rb (.slice a ts.length cap) ((i + 1 : Nat) : Int) dp false) := hR1
  have HE1 : Hid (Exc rb w w1) := hE1
  have c2 := HR1.out.c2
  have f2 := HR1.out.fr 2
  clear hR1 hE1 hn
  go_wp2_with fail
  obtain ⟨w2, hw2⟩ : ∃ W, W = w1.setCell ⟨rb, 2, none⟩ (.int .i64 (dp + 1)) := ⟨_, rfl⟩
  have HR2 : Hid (Rdr w2 rb (.slice a ts.length cap) ((i + 1 : Nat) : Int) (dp + 1) false) := by rw [hw2]; exact HR1.out.s2 _
  have HE2 : Hid (Exc rb w w2) := by rw [hw2]; exact HE1.out.setCell (p := ⟨rb, 2, none⟩) rfl _
  rw [← hw2]
  clear hw2 c2 f2
  refine (HX.out (i + 1) false w2 (by omega) (by omega) HR2.out (HT.out.go (HE2.out.below (by omega)))).mono ?_
  rintro e w3 ⟨v, j, wr, rfl, hv1, hE3, hR3, hij, hj, hL, _⟩
  have HE3 : Hid (Exc rb w w3) := HE2.out.trans hE3
  have HR3 : Hid (Rdr w3 rb (.slice a ts.length cap) (j : Nat) (dp + 1) wr) := hR3
  have hz2 : w.heap.size ≤ w2.heap.size := HE2.out.size
  have hz3 : w.heap.size ≤ w3.heap.size := HE3.out.size
  have HI3 : Hid (BdI ts (E true) w.heap.size T (dp + 1) j wr (w3.alloc (.cells #[v] 58)) (.slice (some ⟨w3.heap.size, 0, none⟩) 1 1) 1 [v]) := by
    have h := hL rfl
    show BdI _ _ _ _ _ _ _ _ _ _ _
    match e : E true (lx ts (i + 1)) with
    | .error k => rw [e] at h; exact .inr ⟨k, by rw [HTe.out, e]; rfl, h⟩
    | .ok (ns, r) =>
      rw [e] at h
      obtain ⟨rfl, q1, rfl, q2⟩ := h
      exact .inl ⟨rfl, _, [], 0, ns, [ns], by rw [HTe.out, e], by rw [lx_len]; omega, by simp, by omega, by omega, GrP.one (q2.mono fun k _ hk => by omega)⟩
  clear hL hE3 hR3 HTe
  have hcv := one_cells hv1
  have hca := one_agg hv1
  go_wp2_with fail
  go_loopw [3] (fun u wr => ∃ (n : Nat) (sa : Option Addr) (sc : Nat) (vs : List Value) (j : Nat) (wr' : Bool), u = .slice sa n sc ∧ Hid (OwnV w.heap.size wr (.slice sa n sc) n vs) ∧ Hid (Rdr wr rb (.slice a ts.length cap) (j : Nat) (dp + 1) wr') ∧ Hid (Exc rb w wr) ∧ Hid (i < j ∧ j ≤ ts.length ∧ n ≤ 2 * j) ∧ Hid (BdI ts (E true) w.heap.size T (dp + 1) j wr' wr (.slice sa n sc) n vs)) (fun _ wr => ts.length - atOf rb wr)
  case atStart => exact ⟨1, _, 1, [v], j, wr, rfl, OwnV.one w3 v hz3, HR3.out.al _, HE3.out.alloc _, ⟨by omega, hj, by omega⟩, HI3⟩
  case round =>
    clear HI3 HR3 HE3 hv1 hij hj hz3 hcv hca
    obtain ⟨n, sa, sc, vs, j, wr', rfl, HO, HRr, HEr, HJ, HI⟩ := hrel
    have HTr : Hid (IsTk rb wr a ts) := HT.out.go (HEr.out.below (by omega))
    by_cases hk : kdV ts j (dp + 1) wr' = 16
    · obtain ⟨rfl, hlt, _⟩ := kdV_pos HJ.out.2.1 (by rw [hk]; decide)
      have hh := fun W h1 h2 => has_sgn 16 (by decide) (by decide) rb a cap ts HG.out hl j HJ.out.2.1 (dp + 1) false hk W h1 h2
      have HK : Hid (kdV ts j (dp + 1) false = 16) := hk
      clear hk
      go_wp2_with fail
      refine (sgn_any18 16 wr).mono ?_
      rintro e y1 ⟨rfl, hB⟩
      have HE1 : Hid (Exc rb wr y1) := Exc.bel hB (Nat.le_refl _)
      have HR1 : Hid (Rdr y1 rb (.slice a ts.length cap) (j : Nat) (dp + 1) false) := HRr.out.bel hB
      clear hB
      go_wp2_with fail
      refine (hh y1 HR1.out (HTr.out.go (HE1.out.below (by have := HRr.out.lt; omega)))).mono ?_
      rintro e y2 ⟨rfl, hR2, hE2⟩
      have HE2 : Hid (Exc rb wr y2) := HE1.out.trans hE2
      have HR2 : Hid (Rdr y2 rb (.slice a ts.length cap) ((j + 1 : Nat) : Int) (dp + 1) false) := hR2
      clear hR2 hE2 hh HE1 HR1
      go_wp2_with fail
      refine (HX.out (j + 1) false y2 (by have := HJ.out; omega) (by have := HJ.out; omega) HR2.out (HTr.out.go (HE2.out.below (by have := HRr.out.lt; omega)))).mono ?_
      rintro e y3 ⟨v2, j2, wr2, rfl, hv2, hE3, hR3, hij2, hj2, hL2, _⟩
      have HE3 : Hid (Exc rb wr y3) := HE2.out.trans hE3
      have HO3 : Hid (OwnV w.heap.size y3 (.slice sa n sc) n vs) := HO.out.exc HE3.out (by omega)
      have HL2 : Hid (ExL ts y2.heap.size y3 v2 (dp + 1) (j + 1) j2 wr2 (E true (lx ts (j + 1))) ∧ j + 1 ≤ j2 ∧ j2 ≤ ts.length) := ⟨hL2 rfl, hij2, hj2⟩
      have HR3 : Hid (Rdr y3 rb (.slice a ts.length cap) (j2 : Nat) (dp + 1) wr2) := hR3
      have hn3 : n ≤ 1000000 := by have := HJ.out; omega
      have hb3 : w.heap.size ≤ y3.heap.size := Nat.le_trans HEr.out.size HE3.out.size
      clear hE3 hL2 hij2 hj2 hR3
      have hcv := one_cells hv2
      have hca := one_agg hv2
      go_wp2_with (at_builtin; refine app_one 117 58 .nilIface 16 Tryz.underlying117 Tryz.infoPart rfl (by decide) rfl _ _ rfl y3 v2 hv2 w.heap.size (.slice sa n sc) n vs rfl rfl HO3.out.2 hn3 hb3 ?_; intro g4 gc4 y4 hO4 hg4 hgb4 hl4)
      clear hcv hca
      have HR4 : Hid (Rdr y4 rb (.slice a ts.length cap) (j2 : Nat) (dp + 1) wr2) := HR3.out.grow hg4 (fun k hk => by have := (HO3.out.lo k hk).1; omega)
      have HO4 : Hid (OwnV w.heap.size y4 (.slice (some ⟨g4, 0, none⟩) (n + 1) gc4) (n + 1) (vs ++ [v2])) := ⟨by rw [List.length_append, HO.out.1]; rfl, hO4⟩
      have HE4 : Hid (Exc rb w y4) := (HEr.out.trans HE3.out).grown hg4 (fun k hk => (HO3.out.lo k hk).1)
      have HG4 : Hid (y3.grownBy y4 (Value.slice sa n sc).ownBlock ∧ ((Value.slice sa n sc).ownBlock = some g4 ∨ y3.heap.size ≤ g4)) := ⟨hg4, hgb4⟩
      clear hO4 hg4 hgb4 hl4
      refine (next_any18 17 (by decide) rb a cap ts hl j2 HL2.out.2.2 (dp + 1) wr2 y4 HR4.out (HT.out.go (HE4.out.below (by omega)))).mono ?_
      rintro e y5 ⟨x0, x1, x2, tx, x4, j3, wr3, rfl, hR5, hE5, hj3a, hj3, hN, _⟩
      have HE5 : Hid (Exc rb y4 y5) := hE5
      have HR5 : Hid (Rdr y5 rb (.slice a ts.length cap) (j3 : Nat) (dp + 1) wr3) := hR5
      have HN : Hid (NxO ts j2 (dp + 1) wr2 17 j3 wr3 ∧ j2 ≤ j3 ∧ j3 ≤ ts.length) := ⟨hN, hj3a, hj3⟩
      clear hR5 hE5 hj3a hj3 hN
      go_wp2_with fail
      refine (HX.out j3 wr3 y5 (by have := HN.out; have := HL2.out; have := HJ.out; omega) HN.out.2.2 HR5.out (HT.out.go ((HE4.out.trans HE5.out).below (by omega)))).mono ?_
      rintro e y6 ⟨v3, j4, wr4, rfl, hv3, hE6, hR6, hij4, hj4, hL3, hD3⟩
      have HE6 : Hid (Exc rb y4 y6) := HE5.out.trans hE6
      have HR6 : Hid (Rdr y6 rb (.slice a ts.length cap) (j4 : Nat) (dp + 1) wr4) := hR6
      have HO6 : Hid (OwnV w.heap.size y6 (.slice (some ⟨g4, 0, none⟩) (n + 1) gc4) (n + 1) (vs ++ [v2])) := HO4.out.exc HE6.out (by omega)
      have HL3 : Hid ((wr3 = false → ExL ts y5.heap.size y6 v3 (dp + 1) j3 j4 wr4 (E true (lx ts j3))) ∧ (kdV ts j3 (dp + 1) wr3 = 0 → j4 = j3 ∧ wr4 = true) ∧ j3 ≤ j4 ∧ j4 ≤ ts.length) := ⟨hL3, hD3, hij4, hj4⟩
      have hn6 : n + 1 ≤ 1000000 := by have := HJ.out; omega
      have hb6 : w.heap.size ≤ y6.heap.size := Nat.le_trans HE4.out.size HE6.out.size
      have hcv := one_cells hv3
      have hca := one_agg hv3
      clear hE6 hR6 hij4 hj4 hL3 hD3
      go_wp2_with (at_builtin; refine app_one 117 58 .nilIface 16 Tryz.underlying117 Tryz.infoPart rfl (by decide) rfl _ _ rfl y6 v3 hv3 w.heap.size (.slice (some ⟨g4, 0, none⟩) (n + 1) gc4) (n + 1) (vs ++ [v2]) rfl rfl HO6.out.2 hn6 hb6 ?_; intro g7 gc7 y7 hO7 hg7 hgb7 hl7)
      have HR7 := HR6.out.grow hg7 (fun k hk => by have := (HO6.out.lo k hk).1; omega)
      have hj7 : j4 ≤ ts.length ∧ i < j4 ∧ j + 1 ≤ j4 ∧ n + 1 + 1 ≤ 2 * j4 := by have := HL3.out.2.2; have := HN.out; have := HL2.out.2; have := HJ.out; omega
      refine ⟨⟨n + 1 + 1, some ⟨g7, 0, none⟩, gc7, vs ++ [v2] ++ [v3], j4, wr4, rfl, ⟨by rw [List.length_append, HO6.out.1]; rfl, hO7⟩, HR7, (HE4.out.trans HE6.out).grown hg7 (fun k hk => (HO6.out.lo k hk).1), ⟨hj7.2.1, hj7.1, hj7.2.2.2⟩, ?_⟩, ?_⟩
      · refine BdI.step HI.out (by omega) HJ.out.2.1 HK.out HL2.out.1 HL2.out.2 HN.out.1 HN.out.2.2 HL3.out.1 HL3.out.2.1 HL3.out.2.2 ?_
        intro nss ms ks hG0 hm hks
        have hA : ∀ k, w.heap.size ≤ k → k ≠ rb := fun k hk => by omega
        have hs2 : w.heap.size ≤ y2.heap.size := Nat.le_trans HEr.out.size HE2.out.size
        have hs5 : w.heap.size ≤ y5.heap.size := Nat.le_trans HE4.out.size HE5.out.size
        have G4 := (hG0.exc HE3.out hA).snoc HO3.out ((HO.out.exc HE2.out (by omega)).out hm hs2) HO4.out.2 HG4.out.1 HG4.out.2
        exact (G4.exc HE6.out hA).snoc HO6.out ((HO4.out.exc HE5.out (by omega)).out hks hs5) hO7 hg7 hgb7
      · rw [atOf_is HR7, atOf_is HRr.out]
        have := HJ.out
        omega
    · have hh := fun W h1 h2 => has_kd 16 0 rb a cap ts hl j HJ.out.2.1 (dp + 1) wr' hk W h1 h2
      have HK : Hid (kdV ts j (dp + 1) wr' ≠ 16) := hk
      clear hk
      go_wp2_with fail
      refine (sgn_any18 16 wr).mono ?_
      rintro e y1 ⟨rfl, hB⟩
      have HE1 : Hid (Exc rb wr y1) := Exc.bel hB (Nat.le_refl _)
      have HR1 : Hid (Rdr y1 rb (.slice a ts.length cap) (j : Nat) (dp + 1) wr') := HRr.out.bel hB
      clear hB
      go_wp2_with fail
      refine (hh y1 HR1.out (HTr.out.go (HE1.out.below (by have := HRr.out.lt; omega)))).mono ?_
      rintro e y2 ⟨rfl, hR2, hE2⟩
      have HE2 : Hid (Exc rb wr y2) := HE1.out.trans hE2
      have HR2 : Hid (Rdr y2 rb (.slice a ts.length cap) (j : Nat) (dp + 1) wr') := hR2
      clear hR2 hE2 hh HE1 HR1
      go_wp2_with fail
      refine (next_any18 15 (by decide) rb a cap ts hl j HJ.out.2.1 (dp + 1) wr' y2 HR2.out (HTr.out.go (HE2.out.below (by have := HRr.out.lt; omega)))).mono ?_
      rintro e y3 ⟨x0, x1, x2, tx, x4, j3, wr3, rfl, hR3, hE3, hj3a, hj3, hN, _⟩
      have HE3 : Hid (Exc rb wr y3) := HE2.out.trans hE3
      have HR3 : Hid (Rdr y3 rb (.slice a ts.length cap) (j3 : Nat) (dp + 1) wr3) := hR3
      have HN : Hid (NxO ts j (dp + 1) wr' 15 j3 wr3 ∧ j ≤ j3 ∧ j3 ≤ ts.length) := ⟨hN, hj3a, hj3⟩
      have c2 := HR3.out.c2
      have f2 := HR3.out.fr 2
      clear hR3 hE3 hj3a hj3 hN
      go_wp2_with fail
      go_ret
      have HR4 := HR3.out.s2 dp
      have HE4 := HE3.out.setCell (p := ⟨rb, 2, none⟩) rfl (.int .i64 dp)
      refine ⟨sa, n, sc, j3, wr3, rfl, HEr.out.trans HE4, HR4, by have := HJ.out; have := HN.out; omega, HN.out.2.2, ?_⟩
      exact BdI.fin HI.out HO.out h0 HJ.out.2.1 HK.out HN.out.1 (fun nss h => h.exc HE4 (fun k hk => by omega))
end Go.Proofs.YtgjgbgllhbdodaaGreatDoor
