/-
  The reader of words: a line.
-/
import Derived.Test.YtgjgbgllhbdodaaGreatDoorTrd
import Derived.Test.YtgjgbgllhbdodaaGreatDoorTpn
namespace Go.Proofs.YtgjgbgllhbdodaaGreatDoor
open Go.RowKit Go.Lib
set_option linter.unusedVariables false

set_option maxRecDepth 100000 in
set_option maxHeartbeats 8000000 in
theorem ln_short (rb : Nat) (a : Option Addr) (cap : Nat) (ts : List TkA) (hl : ts.length ≤ 1000) (E : Bool → List Tk → Rp) (F : Nat) (hE : EcP rb a cap ts E F) (hF : ts.length < F) (h1 : ¬ 1 < ts.length)
    (w : World) (hR : Rdr w rb (.slice a ts.length cap) (0 : Nat) 0 false) (hT : IsTk rb w a ts) :
    Calls Tryz.prog 20 #[.pointer (some ⟨rb, 0, none⟩)] w (ExA rb a cap ts (E false (lx ts 0)) 0 0 false w) := by
  have hx := hE 0 0 false w (Nat.zero_le _) (Int.le_refl 0) (by simp) (by omega) hR hT
  rw [show decide ((0 : Int) < 0) = false from rfl] at hx
  have c0 := hR.c0
  have n1 : ¬ ((1 : Int) < (ts.length : Int)) := by omega
  have HTk : Hid (IsTk rb w a ts) := hT
  clear hR hT hE h1
  go_enter Tryz.func20, Tryz.ntmps20
  go_wp2_with fail
  refine hx.mono ?_
  rintro e w1 ⟨v, j, wr', rfl, hv, h1, h2, h3, h4, h5, h6⟩
  have HH : Hid (ExA rb a cap ts (E false (lx ts 0)) 0 0 false w (.returned v) w1) := ⟨v, j, wr', rfl, hv, h1, h2, h3, h4, h5, h6⟩
  clear h1 h2 h3 h4 h5 h6 hv
  go_wp2_with fail
  go_ret
  exact HH.out
set_option maxRecDepth 100000 in
set_option maxHeartbeats 8000000 in
theorem ln_kd0 (rb : Nat) (a : Option Addr) (cap : Nat) (ts : List TkA) (hl : ts.length ≤ 1000) (E : Bool → List Tk → Rp) (F : Nat) (hE : EcP rb a cap ts E F) (hF : ts.length < F) (h1 : 1 < ts.length) (h0 : (tkz ts 0).1.kind ≠ 3)
    (w : World) (hR : Rdr w rb (.slice a ts.length cap) (0 : Nat) 0 false) (hT : IsTk rb w a ts) :
    Calls Tryz.prog 20 #[.pointer (some ⟨rb, 0, none⟩)] w (ExA rb a cap ts (E false (lx ts 0)) 0 0 false w) := by
  have hx := hE 0 0 false w (Nat.zero_le _) (Int.le_refl 0) (by simp) (by omega) hR hT
  rw [show decide ((0 : Int) < 0) = false from rfl] at hx
  have c0 := hR.c0
  obtain ⟨g, off, ha, hg, hcell⟩ := hT.at (j := 0) (by omega)
  have k0 := (hcell 0 (by omega)).1
  rw [show off + 0 * 5 = off by omega] at k0
  rw [ha] at c0
  clear ha
  have n1 : (1 : Int) < (ts.length : Int) := by omega
  have e0 : ((tkz ts 0).1.kind == 3) = false := by simpa using h0
  clear hcell
  have HTk : Hid (IsTk rb w a ts) := hT
  clear hR hT hE h1 h0
  go_enter Tryz.func20, Tryz.ntmps20
  go_wp2_with fail
  refine hx.mono ?_
  rintro e w1 ⟨v, j, wr', rfl, hv, h1, h2, h3, h4, h5, h6⟩
  have HH : Hid (ExA rb a cap ts (E false (lx ts 0)) 0 0 false w (.returned v) w1) := ⟨v, j, wr', rfl, hv, h1, h2, h3, h4, h5, h6⟩
  clear h1 h2 h3 h4 h5 h6 hv
  go_wp2_with fail
  go_ret
  exact HH.out
set_option maxRecDepth 100000 in
set_option maxHeartbeats 8000000 in
theorem ln_kd1 (rb : Nat) (a : Option Addr) (cap : Nat) (ts : List TkA) (hl : ts.length ≤ 1000) (E : Bool → List Tk → Rp) (F : Nat) (hE : EcP rb a cap ts E F) (hF : ts.length < F) (h1 : 1 < ts.length) (h0 : (tkz ts 0).1.kind = 3) (h2 : (tkz ts 1).1.kind ≠ 10)
    (w : World) (hR : Rdr w rb (.slice a ts.length cap) (0 : Nat) 0 false) (hT : IsTk rb w a ts) :
    Calls Tryz.prog 20 #[.pointer (some ⟨rb, 0, none⟩)] w (ExA rb a cap ts (E false (lx ts 0)) 0 0 false w) := by
  have hx := hE 0 0 false w (Nat.zero_le _) (Int.le_refl 0) (by simp) (by omega) hR hT
  rw [show decide ((0 : Int) < 0) = false from rfl] at hx
  have c0 := hR.c0
  obtain ⟨g, off, ha, hg, hcell⟩ := hT.at (j := 0) (by omega)
  have k0 := (hcell 0 (by omega)).1
  rw [show off + 0 * 5 = off by omega] at k0
  have k1 := (hcell 1 h1).1
  rw [ha] at c0
  clear ha
  have n1 : (1 : Int) < (ts.length : Int) := by omega
  have e1 : ((tkz ts 1).1.kind == 10) = false := by simpa using h2
  rw [h0] at k0
  clear hcell
  have HTk : Hid (IsTk rb w a ts) := hT
  clear hR hT hE h1 h0 h2
  go_enter Tryz.func20, Tryz.ntmps20
  go_wp2_with fail
  refine hx.mono ?_
  rintro e w1 ⟨v, j, wr', rfl, hv, h1, h2, h3, h4, h5, h6⟩
  have HH : Hid (ExA rb a cap ts (E false (lx ts 0)) 0 0 false w (.returned v) w1) := ⟨v, j, wr', rfl, hv, h1, h2, h3, h4, h5, h6⟩
  clear h1 h2 h3 h4 h5 h6 hv
  go_wp2_with fail
  go_ret
  exact HH.out
set_option maxRecDepth 100000 in
set_option maxHeartbeats 8000000 in
theorem ln_set (rb : Nat) (a : Option Addr) (cap : Nat) (ts : List TkA) (hl : ts.length ≤ 1000) (E : Bool → List Tk → Rp) (F : Nat) (hE : EcP rb a cap ts E F) (hF : ts.length - 2 < F) (h1 : 1 < ts.length) (h0 : (tkz ts 0).1.kind = 3) (h2 : (tkz ts 1).1.kind = 10)
    (w : World) (hR : Rdr w rb (.slice a ts.length cap) (0 : Nat) 0 false) (hT : IsTk rb w a ts) :
    Calls Tryz.prog 20 #[.pointer (some ⟨rb, 0, none⟩)] w fun e w' => ∃ (v : Value) (j : Nat) (wr : Bool) (lo : Nat), e = .returned (.iface 91 (.agg #[.string ⟨(tkz ts 0).1.text.toArray⟩, v])) ∧ Exc rb w w' ∧ Rdr w' rb (.slice a ts.length cap) (j : Int) 0 wr ∧ 2 ≤ j ∧ j ≤ ts.length ∧ w.heap.size ≤ lo ∧ ExL ts lo w' v 0 2 j wr (E false (lx ts 2)) := by
  obtain ⟨g, off, ha, hg, hcell⟩ := hT.at (j := 0) (by omega)
  have k0 := (hcell 0 (by omega)).1
  rw [show off + 0 * 5 = off by omega] at k0
  have k1 := (hcell 1 h1).1
  subst ha
  have n1 : (1 : Int) < (ts.length : Int) := by omega
  rw [h0] at k0
  rw [h2] at k1
  clear hcell
  have c0 := hR.c0
  have HR : Hid (Rdr w rb (.slice (some ⟨g, off, none⟩) ts.length cap) (0 : Nat) 0 false) := hR
  have HT : Hid (IsTk rb w (some ⟨g, off, none⟩) ts) := hT
  have hbs : rb < w.heap.size := hR.lt
  have q0 := next_yes 3 rb (some ⟨g, off, none⟩) cap ts hl 0 (by omega) 0 false ((kd_iff (by omega) 0 (by decide) (by decide)).2 h0) (by decide) w hR hT
  have q1 := fun W a b => next_yes 10 rb (some ⟨g, off, none⟩) cap ts hl 1 (by omega) 0 false ((kd_iff h1 0 (by decide) (by decide)).2 h2) (by decide) W a b
  have HX : Hid (EcP rb (some ⟨g, off, none⟩) cap ts E F) := hE
  clear hR hT hE h0 h2
  go_enter Tryz.func20, Tryz.ntmps20
  go_wp2_with fail
  refine q0.mono ?_
  rintro e w1 ⟨rfl, hR1, hE1⟩
  have HE1 : Hid (Exc rb w w1) := hE1
  have HR1 : Hid (Rdr w1 rb (.slice (some ⟨g, off, none⟩) ts.length cap) ((1 : Nat) : Int) 0 false) := hR1
  clear hR1 hE1 q0
  simp only [tkV, TkA.s]
  have hfld := fld_text (tkz ts 0).1.kind (tkz ts 0).1.fn (tkz ts 0).1.num ⟨(tkz ts 0).1.text.toArray⟩ (tkz ts 0).2
  go_wp2_with fail
  refine (q1 w1 HR1.out (HT.out.go (HE1.out.below (by omega)))).mono ?_
  rintro e w2 ⟨rfl, hR2, hE2⟩
  have HE2 : Hid (Exc rb w w2) := HE1.out.trans hE2
  have HR2 : Hid (Rdr w2 rb (.slice (some ⟨g, off, none⟩) ts.length cap) ((2 : Nat) : Int) 0 false) := hR2
  clear hR2 hE2 q1
  go_wp2_with fail
  refine (HX.out 2 0 false w2 (by omega) (Int.le_refl 0) (by simp) (by omega) HR2.out (HT.out.go (HE2.out.below (by omega)))).mono ?_
  rintro e w3 ⟨v, j, wr, rfl, hv, hE3, hR3, hj2, hj, hL, _⟩
  have HH : Hid (Exc rb w w3 ∧ Rdr w3 rb (.slice (some ⟨g, off, none⟩) ts.length cap) (j : Int) 0 wr ∧ ExL ts w2.heap.size w3 v 0 2 j wr (E false (lx ts 2))) := ⟨HE2.out.trans hE3, hR3, hL rfl⟩
  have hcv := one_cells hv
  have hca := one_agg hv
  clear hE3 hR3 hL
  go_wp2_with fail
  go_ret
  exact ⟨v, j, wr, w2.heap.size, rfl, HH.out.1, HH.out.2.1, hj2, hj, HE2.out.size, HH.out.2.2⟩
def lnX (n : Nat) (S : List Nod → List Nod) : Rp → Except Nat (List Nod)
  | .error k => .error (n - k)
  | .ok (ns, []) => .ok (S ns)
  | .ok (_, _ :: r) => .error (n - (r.length + 1))
theorem lnP_X (ts : List Tk) : lnP ts = lnX ts.length (setN ts) (exP ((exprW ts).length + 1) false (exprW ts)) := by
  unfold lnP
  match exP ((exprW ts).length + 1) false (exprW ts) with
  | .error k => rfl
  | .ok (ns, []) => rfl
  | .ok (ns, t :: r) => rfl
def LnL (ts : List TkA) (lo : Nat) (w : World) (v : Value) (j : Nat) (wr : Bool) : Except Nat (List Nod) → Prop
  | .ok ns => j = ts.length ∧ wr = false ∧ PartW (fun k => lo ≤ k) w v ns
  | .error i => i = j ∧ (wr = true ∨ j < ts.length)
/-- What reading a line tells. -/
def LnA (rb : Nat) (a : Option Addr) (cap : Nat) (ts : List TkA) (x : Except Nat (List Nod)) (w : World) (e : Ending) (w' : World) : Prop :=
  ∃ (v : Value) (j : Nat) (wr : Bool), e = .returned v ∧ Exc rb w w' ∧ Rdr w' rb (.slice a ts.length cap) (j : Int) 0 wr ∧ j ≤ ts.length ∧ LnL ts w.heap.size w' v j wr x
theorem lx_zero (ts : List TkA) : lx ts 0 = ts.map Prod.fst := rfl
theorem lx_nil {ts : List TkA} {j : Nat} (hj : j ≤ ts.length) (h : lx ts j = []) : j = ts.length := by
  have := congrArg List.length h
  rw [lx_len, List.length_nil] at this; omega
theorem line_l {ts : List TkA} {lo : Nat} {w : World} {v : Value} {i j : Nat} {wr : Bool} (x : Rp) (h : ExL ts lo w v 0 i j wr x) (hj : j ≤ ts.length) (S : List Nod → List Nod) (v' : Value) (hS : ∀ ns, PartW (fun k => lo ≤ k) w v ns → PartW (fun k => lo ≤ k) w v' (S ns)) :
    LnL ts lo w v' j wr (lnX ts.length S x) := by
  match x with
  | .error k =>
    obtain ⟨h1, h2, h3⟩ := h
    refine ⟨by omega, ?_⟩
    by_cases hk : k = 0
    · exact .inl (h3 hk)
    · exact .inr (by omega)
  | .ok (ns, []) =>
    obtain ⟨h1, h2, h3, h4⟩ := h
    exact ⟨lx_nil hj h1.symm, h3, hS _ h4⟩
  | .ok (ns, t :: r) =>
    obtain ⟨h1, h2, h3, h4⟩ := h
    have := congrArg List.length h1
    rw [lx_len, List.length_cons] at this
    exact ⟨by omega, .inr (by omega)⟩
theorem line_any18 (rb : Nat) (a : Option Addr) (cap : Nat) (ts : List TkA) (hG : RgT ts) (hl : ts.length ≤ 1000)
    (w : World) (hR : Rdr w rb (.slice a ts.length cap) (0 : Nat) 0 false) (hT : IsTk rb w a ts) :
    Calls Tryz.prog 20 #[.pointer (some ⟨rb, 0, none⟩)] w (LnA rb a cap ts (lnP (ts.map Prod.fst)) w) := by
  rw [← lx_zero]
  have hlen : (lx ts 0).length = ts.length := by rw [lx_len]; omega
  rw [lnP_X, hlen]
  by_cases hA : isAr (lx ts 0) = true
  · have h1 : 1 < ts.length := by
      rcases Nat.lt_or_ge 1 ts.length with h | h
      · exact h
      · by_cases h0 : 0 < ts.length
        · rw [lx_at ts h0, lx_end ts (by omega)] at hA; cases hA
        · rw [lx_end ts (by omega)] at hA; cases hA
    have hA' := hA
    have e2 : lx ts 0 = (tkz ts 0).1 :: (tkz ts 1).1 :: lx ts 2 := by rw [lx_at ts (by omega), lx_at ts h1]
    rw [e2] at hA'
    simp only [isAr, Bool.and_eq_true, decide_eq_true_eq] at hA'
    have hW : exprW (lx ts 0) = lx ts 2 := by unfold exprW; rw [if_pos hA, e2]; rfl
    have hS : ∀ ns, setN (lx ts 0) ns = ⟨9, ac0, 0, [], (tkz ts 0).1.text⟩ :: ns := by
      intro ns
      rw [e2] at hA ⊢
      show (if isAr _ = true then _ else _) = _
      rw [if_pos hA]
    rw [hW]
    refine (ln_set rb a cap ts hl (exP ((lx ts 2).length + 1)) _ (expression_any rb a cap ts hG hl _) (by rw [lx_len]; omega) h1 hA'.1 hA'.2 w hR hT).mono ?_
    rintro e w' ⟨v, j, wr, lo, rfl, hE', hR', hj2, hj, hz, hL⟩
    refine ⟨_, j, wr, rfl, hE', hR', hj, ?_⟩
    have hL := hL.mono hz
    have := line_l _ hL hj (setN (lx ts 0)) (.iface 91 (.agg #[.string ⟨(tkz ts 0).1.text.toArray⟩, v])) (fun ns h => by rw [hS]; exact pw_set _ h)
    exact this
  · have hW : exprW (lx ts 0) = lx ts 0 := by unfold exprW; rw [if_neg hA]
    have hS : ∀ ns, setN (lx ts 0) ns = ns := by
      intro ns
      unfold setN
      match e : lx ts 0 with
      | [] => rfl
      | t :: r => rw [e] at hA; simp only [if_neg hA]
    rw [hW, hlen]
    have hE := expression_any rb a cap ts hG hl (ts.length + 1)
    have fin : ∀ e w', ExA rb a cap ts (exP (ts.length + 1) false (lx ts 0)) 0 0 false w e w' → LnA rb a cap ts (lnX ts.length (setN (lx ts 0)) (exP (ts.length + 1) false (lx ts 0))) w e w' := by
      rintro e w' ⟨v, j, wr, rfl, hv, hE', hR', _, hj, hL, _⟩
      refine ⟨v, j, wr, rfl, hE', hR', hj, ?_⟩
      exact line_l _ (hL rfl) hj (setN (lx ts 0)) v (fun ns h => by rw [hS]; exact h)
    by_cases h1 : 1 < ts.length
    · have e2 : lx ts 0 = (tkz ts 0).1 :: (tkz ts 1).1 :: lx ts 2 := by rw [lx_at ts (by omega), lx_at ts h1]
      by_cases h0 : (tkz ts 0).1.kind = 3
      · have h2 : (tkz ts 1).1.kind ≠ 10 := by
          intro h2
          rw [e2] at hA
          exact hA (by simp only [isAr, h0, h2]; rfl)
        exact (ln_kd1 rb a cap ts hl _ _ hE (Nat.lt_succ_self _) h1 h0 h2 w hR hT).mono fin
      · exact (ln_kd0 rb a cap ts hl _ _ hE (Nat.lt_succ_self _) h1 h0 w hR hT).mono fin
    · exact (ln_short rb a cap ts hl _ _ hE (Nat.lt_succ_self _) h1 w hR hT).mono fin
end Go.Proofs.YtgjgbgllhbdodaaGreatDoor
