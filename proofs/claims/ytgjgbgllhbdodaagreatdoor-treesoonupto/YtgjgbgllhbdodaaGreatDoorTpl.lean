/-
  The reader of words: a term.
-/
import Derived.Test.YtgjgbgllhbdodaaGreatDoorTpk
namespace Go.Proofs.YtgjgbgllhbdodaaGreatDoor
open Go.RowKit Go.Lib
set_option linter.unusedVariables false

/-- Behind an index. -/
def ixK (E : List Tk → Rp) (f : Nat) (acc : List Nod) (n : Int) : Rp → Ri
  | .error k => .error k
  | .ok (ns, []) => .error 0
  | .ok (ns, t :: r) =>
    if t.kind = 8 then .ok ((n + 1, acc ++ ns), r)
    else if t.kind = 9 then ixP E f r (acc ++ ns) (n + 1)
    else .error (r.length + 1)
theorem ixP_K (E : List Tk → Rp) (f : Nat) (ts : List Tk) (acc : List Nod) (n : Int) : ixP E (f + 1) ts acc n = ixK E f acc n (E ts) := by
  simp only [ixP]
  match E ts with
  | .error k => rfl
  | .ok (ns, []) => rfl
  | .ok (ns, t :: r) => rfl
def IxI (ts : List TkA) (E : List Tk → Rp) (lo : Nat) (T : Ri) (dp : Int) (j : Nat) (wr : Bool) (w : World) (v : Value) (n : Nat) (vs : List Value) : Prop :=
  (wr = false ∧ ∃ (f : Nat) (acc : List Nod) (m : Int) (ns : List Nod) (nss : List (List Nod)), T = ixK E f acc m (.ok (ns, lx ts j)) ∧ ts.length - j ≤ f ∧ nss.flatten = acc ++ ns ∧ (n : Int) = m + 1 ∧ GrP (fun k => lo ≤ k) w v n vs nss) ∨
  (∃ k, T = .error k ∧ DedO ts j dp wr k)
def IxL (ts : List TkA) (lo : Nat) (w : World) (sa : Option Addr) (n : Nat) (dp : Int) (j : Nat) (wr : Bool) : Ri → Prop
  | .ok ((m, ns), r) => r = lx ts j ∧ wr = false ∧ m = (n : Int) ∧ ∃ nss : List (List Nod), nss.length = n ∧ nss.flatten = ns ∧ RowW (fun k => lo ≤ k) w sa nss
  | .error k => DedO ts j dp wr k
theorem IxI.fin {ts : List TkA} {E : List Tk → Rp} {lo lo' : Nat} {T : Ri} {dp : Int} {j : Nat} {wr : Bool} {w : World} {sa : Option Addr} {sc : Nat} {n : Nat} {vs : List Value} (h : IxI ts E lo T dp j wr w (.slice sa n sc) n vs) (hO : OwnV lo' w (.slice sa n sc) n vs) (hlo : lo ≤ lo')
    (hj : j ≤ ts.length) (hk : kdV ts j dp wr ≠ 9) {j' : Nat} {wr' : Bool} (hN : NxO ts j dp wr 8 j' wr') {w' : World} (hE : ∀ nss, RowW (fun k => lo ≤ k) w sa nss → RowW (fun k => lo ≤ k) w' sa nss) : IxL ts lo w' sa n dp j' wr' T := by
  rcases h with ⟨rfl, f, acc, m, ns, nss, hT, hf, hfl, hn, hG⟩ | ⟨k, hT, h1, h2, h3⟩
  · by_cases he : j = ts.length
    · rw [lx_end ts (by omega)] at hT
      subst hT
      obtain ⟨rfl, rfl⟩ := hN.2 (by rw [kd_end ts he]; decide)
      exact DedO.of hj _ (by omega)
    have hlt : j < ts.length := by omega
    rw [lx_at ts hlt] at hT
    simp only [ixK] at hT
    have K := fun k h0 => kd_iff hlt dp (k := k) h0
    by_cases h8 : (tkz ts j).1.kind = 8
    · rw [if_pos h8] at hT
      subst hT
      obtain ⟨rfl, rfl⟩ := hN.1 ((K 8 (by decide) (by decide)).2 h8)
      exact ⟨rfl, rfl, hn.symm, nss, hG.1, hfl, hE _ (hG.row hO fun k hk => Nat.le_trans hlo hk)⟩
    · rw [if_neg h8, if_neg (fun e => hk ((K 9 (by decide) (by decide)).2 e))] at hT
      subst hT
      obtain ⟨rfl, rfl⟩ := hN.2 (fun e => h8 ((K 8 (by decide) (by decide)).1 e))
      exact DedO.of hj _ (by rw [lx_len]; omega)
  · subst hT
    obtain ⟨rfl, rfl⟩ := hN.2 (by rw [h2]; decide)
    exact DedO.of hj _ (by omega)
theorem IxI.step {ts : List TkA} {E : List Tk → Rp} {lo : Nat} {T : Ri} {dp : Int} {j : Nat} {w : World} {v : Value} {n : Nat} {vs : List Value} (h : IxI ts E lo T dp j false w v n vs) (hj : j ≤ ts.length) (hk : kdV ts j dp false = 9)
    {j2 : Nat} {wr2 : Bool} {w3 w4 : World} {v2 v7 : Value} (h2 : ExL ts w3.heap.size w4 v2 dp (j + 1) j2 wr2 (E (lx ts (j + 1)))) (hj2 : j + 1 ≤ j2 ∧ j2 ≤ ts.length)
    {wz : World} (hG : ∀ nss ms, GrP (fun k => lo ≤ k) w v n vs nss → PartW (fun k => w3.heap.size ≤ k) w4 v2 ms → GrP (fun k => lo ≤ k) wz v7 (n + 1) (vs ++ [v2]) (nss ++ [ms])) :
    IxI ts E lo T dp j2 wr2 wz v7 (n + 1) (vs ++ [v2]) := by
  rcases h with ⟨_, f, acc, m, ns, nss, hT, hf, hfl, hn, hG0⟩ | ⟨k, hT, h1, h2', h3''⟩
  rotate_left
  · rw [hk] at h2'; exact absurd h2' (by decide)
  obtain ⟨_, hlt, hkd⟩ := kdV_pos hj (by rw [hk]; decide)
  rw [hk] at hkd
  rw [lx_at ts hlt] at hT
  simp only [ixK] at hT
  rw [if_neg (by rw [← hkd]; decide), if_pos hkd.symm] at hT
  obtain ⟨f', rfl⟩ : ∃ f', f = f' + 1 := ⟨f - 1, by omega⟩
  rw [ixP_K] at hT
  match e : E (lx ts (j + 1)) with
  | .error k =>
    rw [e] at h2 hT
    exact .inr ⟨k, hT, h2⟩
  | .ok (ms, r) =>
    rw [e] at h2 hT
    obtain ⟨rfl, q1, rfl, q2⟩ := h2
    exact .inl ⟨rfl, f', _, _, ms, nss ++ [ms], hT, by omega, by simp [hfl], by omega, hG nss ms hG0 q2⟩
def TmI (ts : List TkA) (E : List Tk → Rp) (lo : Nat) (T : Rp) (dp : Int) (i j : Nat) (wr : Bool) (w : World) (v : Value) : Prop :=
  (wr = false ∧ ∃ (f : Nat) (acc : List Nod), T = pksP E f (lx ts j) acc ∧ ts.length - j < f ∧ i < j ∧ PartW (fun k => lo ≤ k) w v acc) ∨
  (∃ k, T = .error k ∧ DedO ts j dp wr k)
theorem TmI.fin {ts : List TkA} {E : List Tk → Rp} {lo : Nat} {T : Rp} {dp : Int} {i j : Nat} {wr : Bool} {w w' : World} {v : Value} (h : TmI ts E lo T dp i j wr w v) (hj : j ≤ ts.length) (hk : kdV ts j dp wr ≠ 7) (hE : ∀ ns, PartW (fun k => lo ≤ k) w v ns → PartW (fun k => lo ≤ k) w' v ns) : ExL ts lo w' v dp i j wr T := by
  rcases h with ⟨rfl, f, acc, hT, hf, hij, hP⟩ | ⟨k, hT, h⟩
  · obtain ⟨f', rfl⟩ : ∃ f', f = f' + 1 := ⟨f - 1, by omega⟩
    by_cases he : j = ts.length
    · rw [lx_end ts (by omega)] at hT
      subst hT
      exact ⟨(lx_end ts (by omega)).symm, hij, rfl, hE _ hP⟩
    have hlt : j < ts.length := by omega
    rw [lx_at ts hlt] at hT
    simp only [pksP] at hT
    rw [if_neg (fun e => hk ((kd_iff hlt dp (by decide) (by decide)).2 e)), ← lx_at ts hlt] at hT
    subst hT
    exact ⟨rfl, hij, rfl, hE _ hP⟩
  · subst hT; exact h
theorem TmI.step {ts : List TkA} {E : List Tk → Rp} {lo : Nat} {T : Rp} {dp : Int} {i j : Nat} {w : World} {v : Value} (h : TmI ts E lo T dp i j false w v) (hj : j ≤ ts.length) (hk : kdV ts j dp false = 7)
    {j' : Nat} {wr' : Bool} {w' : World} {sa : Option Addr} {n sc : Nat} (hjj : j < j') (hI : IxL ts lo w' sa n dp j' wr' (ixP E ((lx ts (j + 1)).length + 1) (lx ts (j + 1)) [] 0)) (hE : ∀ ns, PartW (fun k => lo ≤ k) w v ns → PartW (fun k => lo ≤ k) w' v ns) :
    TmI ts E lo T dp i j' wr' w' (.iface 128 (.agg #[v, .slice sa n sc])) := by
  rcases h with ⟨_, f, acc, hT, hf, hij, hP⟩ | ⟨k, hT, h1, h2, h3⟩
  · obtain ⟨f', rfl⟩ : ∃ f', f = f' + 1 := ⟨f - 1, by omega⟩
    obtain ⟨_, hlt, hkd⟩ := kdV_pos hj (by rw [hk]; decide)
    rw [lx_at ts hlt] at hT
    simp only [pksP] at hT
    rw [if_pos (by rw [← hkd, hk])] at hT
    match e : ixP E ((lx ts (j + 1)).length + 1) (lx ts (j + 1)) [] 0 with
    | .error k =>
      rw [e] at hI hT
      exact .inr ⟨k, hT, hI⟩
    | .ok ((m, ns), r) =>
      rw [e] at hI hT
      obtain ⟨rfl, rfl, rfl, nss, h1, rfl, h2⟩ := hI
      exact .inl ⟨rfl, f', _, hT, by omega, by omega, pw_pick sc n h1 h2 (hE _ hP)⟩
  · rw [hk] at h2; exact absurd h2 (by decide)
set_option maxRecDepth 100000 in
set_option maxHeartbeats 8000000 in
theorem term_any18 (rb : Nat) (a : Option Addr) (cap : Nat) (ts : List TkA) (hG : RgT ts) (hl : ts.length ≤ 1000) (E : Bool → List Tk → Rp) (F : Nat) (hE : EcP rb a cap ts E F) (i : Nat) (hi : i ≤ ts.length) (dp : Int) (wb : Bool) (h0 : 0 ≤ dp) (hdp : dp ≤ i) (hF : ts.length - i ≤ F)
    (w : World) (hR : Rdr w rb (.slice a ts.length cap) (i : Nat) dp wb) (hT : IsTk rb w a ts) :
    Calls Tryz.prog 86 #[.pointer (some ⟨rb, 0, none⟩)] w (ExA rb a cap ts (tmP (E (decide (0 < dp))) (decide (0 < dp)) (lx ts i)) i dp wb w) := by
  have hat := atom_any rb a cap ts hl E F hE i hi dp wb h0 hdp hF w hR hT
  have HR : Hid (Rdr w rb (.slice a ts.length cap) (i : Nat) dp wb) := hR
  have HT : Hid (IsTk rb w a ts) := hT
  have hbs : rb < w.heap.size := hR.lt
  have HX : Hid (∀ (j : Nat) (wr : Bool) (W : World), i < j → j ≤ ts.length → Rdr W rb (.slice a ts.length cap) (j : Nat) dp wr → IsTk rb W a ts →
      Calls Tryz.prog 42 #[.pointer (some ⟨rb, 0, none⟩)] W (ExA rb a cap ts (E (decide (0 < dp)) (lx ts j)) j dp wr W)) :=
    fun j wr W h1 h2 h3 h4 => hE j dp wr W h2 h0 (by omega) (by omega) h3 h4
  have HG : Hid (RgT ts) := hG
  obtain ⟨T, hTe⟩ : ∃ T, T = tmP (E (decide (0 < dp))) (decide (0 < dp)) (lx ts i) := ⟨_, rfl⟩
  rw [← hTe]
  have HTe : Hid (T = tmP (E (decide (0 < dp))) (decide (0 < dp)) (lx ts i)) := hTe
  generalize decide (0 < dp) = b at *
  clear hTe hE hR hT hG
  go_enter Tryz.func86, Tryz.ntmps86
  go_wp2_with fail
  refine hat.mono ?_
  rintro e w1 ⟨v, j, wr1, rfl, hv, hE1, hR1, hij, hj, hL, hD⟩
  have HE1 : Hid (Exc rb w w1) := hE1
  have HR1 : Hid (Rdr w1 rb (.slice a ts.length cap) (j : Nat) dp wr1) := hR1
  have HI1 : Hid ((wb = false → TmI ts (E b) w.heap.size T dp i j wr1 w1 v) ∧ (kdV ts i dp wb = 0 → j = i ∧ wr1 = true) ∧ i ≤ j ∧ j ≤ ts.length) := by
    refine ⟨fun h => ?_, hD, hij, hj⟩
    have h := hL h
    have hT := HTe.out
    unfold tmP at hT
    match e : atP (E b) b (lx ts i) with
    | .error k => rw [e] at h hT; exact .inr ⟨k, hT, h⟩
    | .ok (ns, r) =>
      rw [e] at h hT
      obtain ⟨rfl, q1, rfl, q2⟩ := h
      exact .inl ⟨rfl, _, ns, hT, by rw [lx_len]; omega, q1, q2⟩
  have HVV : Hid (v.oneCell' = true) := hv
  clear hE1 hR1 hL hD hij hj hat HTe hv
  go_wp2_with fail
  go_loopw [3] (fun u wr => ∃ (v : Value) (j : Nat) (wr' : Bool), u = v ∧ Hid (v.oneCell' = true) ∧ Hid (Rdr wr rb (.slice a ts.length cap) (j : Nat) dp wr') ∧ Hid (Exc rb w wr) ∧ Hid ((wb = false → TmI ts (E b) w.heap.size T dp i j wr' wr v) ∧ (kdV ts i dp wb = 0 → j = i ∧ wr' = true) ∧ i ≤ j ∧ j ≤ ts.length)) (fun _ wr => ts.length - atOf rb wr)
  case atStart => exact ⟨v, j, wr1, rfl, HVV, HR1, HE1, HI1⟩
  case round =>
    clear HI1 HR1 HE1 HVV
    obtain ⟨v', j, wr', hu, HV, HRr, HEr, HJ⟩ := hrel
    obtain rfl := hu.symm
    clear hu
    obtain ⟨Wq, hq⟩ : ∃ Wq : World, Wq = wr := ⟨_, rfl⟩
    subst hq
    have HTr : Hid (IsTk rb Wq a ts) := HT.out.go (HEr.out.below (by omega))
    have hcq := one_cells HV.out
    have haq := one_agg HV.out
    by_cases hk : kdV ts j dp wr' = 7
    · obtain ⟨rfl, hlt, _⟩ := kdV_pos HJ.out.2.2.2 (by rw [hk]; decide)
      have HW : Hid (TmI ts (E b) w.heap.size T dp i j false Wq v') := by
        refine HJ.out.1 ?_
        cases hb : wb with
        | false => rfl
        | true =>
          have := (HJ.out.2.1 (by rw [hb]; exact kdV_wr _ _ _)).2
          cases this
      have hh := fun W h1 h2 => has_sgn 7 (by decide) (by decide) rb a cap ts HG.out hl j HJ.out.2.2.2 dp false hk W h1 h2
      have HK : Hid (kdV ts j dp false = 7) := hk
      clear hk
      go_wp2_with fail
      refine (sgn_any18 7 Wq).mono ?_
      rintro e y1 ⟨rfl, hB⟩
      have HE1 : Hid (Exc rb Wq y1) := Exc.bel hB (Nat.le_refl _)
      have HR1 : Hid (Rdr y1 rb (.slice a ts.length cap) (j : Nat) dp false) := HRr.out.bel hB
      clear hB
      go_wp2_with fail
      refine (hh y1 HR1.out (HTr.out.go (HE1.out.below (by have := HRr.out.lt; omega)))).mono ?_
      rintro e y2 ⟨rfl, hR2, hE2⟩
      have HE2 : Hid (Exc rb Wq y2) := HE1.out.trans hE2
      have HR2 : Hid (Rdr y2 rb (.slice a ts.length cap) ((j + 1 : Nat) : Int) dp false) := hR2
      clear hR2 hE2 hh HE1 HR1
      go_wp2_with fail
      refine (HX.out (j + 1) false y2 (by have := HJ.out; omega) (by omega) HR2.out (HTr.out.go (HE2.out.below (by have := HRr.out.lt; omega)))).mono ?_
      rintro e y3 ⟨v2, j2, wr2, rfl, hv2, hE3, hR3, hij2, hj2, hL2, _⟩
      have HE3 : Hid (Exc rb Wq y3) := HE2.out.trans hE3
      have HR3 : Hid (Rdr y3 rb (.slice a ts.length cap) (j2 : Nat) dp wr2) := hR3
      have hz3 : w.heap.size ≤ y3.heap.size := Nat.le_trans HEr.out.size HE3.out.size
      have hz2 : w.heap.size ≤ y2.heap.size := Nat.le_trans HEr.out.size HE2.out.size
      have HI3 : Hid (IxI ts (E b) w.heap.size (ixP (E b) ((lx ts (j + 1)).length + 1) (lx ts (j + 1)) [] 0) dp j2 wr2 (y3.alloc (.cells #[v2] 58)) (.slice (some ⟨y3.heap.size, 0, none⟩) 1 1) 1 [v2] ∧ j + 1 ≤ j2 ∧ j2 ≤ ts.length) := by
        refine ⟨?_, hij2, hj2⟩
        have h := hL2 rfl
        rw [ixP_K]
        match e : E b (lx ts (j + 1)) with
        | .error k => rw [e] at h; exact .inr ⟨k, rfl, h⟩
        | .ok (ns, r) =>
          rw [e] at h
          obtain ⟨rfl, q1, rfl, q2⟩ := h
          exact .inl ⟨rfl, _, [], 0, ns, [ns], rfl, by rw [lx_len]; omega, by simp, by omega, GrP.one (q2.mono fun k _ hk => by omega)⟩
      have hcv := one_cells hv2
      have hca := one_agg hv2
      clear hE3 hR3 hL2 hij2 hj2 hv2
      go_wp2_with fail
      go_loopw [4] (fun u wr => ∃ (n : Nat) (sa : Option Addr) (sc : Nat) (vs : List Value) (j3 : Nat) (wr3 : Bool), u = .slice sa n sc ∧ Hid (OwnV Wq.heap.size wr (.slice sa n sc) n vs) ∧ Hid (Rdr wr rb (.slice a ts.length cap) (j3 : Nat) dp wr3) ∧ Hid (Exc rb Wq wr) ∧ Hid (j < j3 ∧ j3 ≤ ts.length ∧ n ≤ j3) ∧ Hid (IxI ts (E b) w.heap.size (ixP (E b) ((lx ts (j + 1)).length + 1) (lx ts (j + 1)) [] 0) dp j3 wr3 wr (.slice sa n sc) n vs)) (fun _ wr => ts.length - atOf rb wr)
      case atStart => exact ⟨1, _, 1, [v2], j2, wr2, rfl, OwnV.one y3 v2 HE3.out.size, HR3.out.al _, HE3.out.alloc _, ⟨by have := HI3.out; omega, HI3.out.2.2, by have := HI3.out; omega⟩, HI3.out.1⟩
      case round =>
        clear HI3 HR3 HE3 hz3 hz2 hcv hca
        obtain ⟨n, sa, sc, vs, j3, wr3, rfl, HO, HRi, HEi, HJi, HI⟩ := hrel
        have HTi : Hid (IsTk rb wr a ts) := HT.out.go ((HEr.out.trans HEi.out).below (by omega))
        by_cases hk9 : kdV ts j3 dp wr3 = 9
        · obtain ⟨rfl, hlt3, _⟩ := kdV_pos HJi.out.2.1 (by rw [hk9]; decide)
          have hh := fun W h1 h2 => has_sgn 9 (by decide) (by decide) rb a cap ts HG.out hl j3 HJi.out.2.1 dp false hk9 W h1 h2
          have HK9 : Hid (kdV ts j3 dp false = 9) := hk9
          clear hk9
          go_wp2_with fail
          refine (sgn_any18 9 wr).mono ?_
          rintro e z1 ⟨rfl, hB⟩
          have HE1 : Hid (Exc rb wr z1) := Exc.bel hB (Nat.le_refl _)
          have HR1 : Hid (Rdr z1 rb (.slice a ts.length cap) (j3 : Nat) dp false) := HRi.out.bel hB
          clear hB
          go_wp2_with fail
          refine (hh z1 HR1.out (HTi.out.go (HE1.out.below (by have := HRi.out.lt; omega)))).mono ?_
          rintro e z2 ⟨rfl, hR2, hE2⟩
          have HE2 : Hid (Exc rb wr z2) := HE1.out.trans hE2
          have HR2 : Hid (Rdr z2 rb (.slice a ts.length cap) ((j3 + 1 : Nat) : Int) dp false) := hR2
          clear hR2 hE2 hh HE1 HR1
          go_wp2_with fail
          refine (HX.out (j3 + 1) false z2 (by have := HJ.out; have := HJi.out; omega) (by omega) HR2.out (HTi.out.go (HE2.out.below (by have := HRi.out.lt; omega)))).mono ?_
          rintro e z3 ⟨v3, j4, wr4, rfl, hv3, hE3, hR3, hij4, hj4, hL4, _⟩
          have HE3 : Hid (Exc rb wr z3) := HE2.out.trans hE3
          have HO3 : Hid (OwnV Wq.heap.size z3 (.slice sa n sc) n vs) := HO.out.exc HE3.out HRr.out.lt
          have HL4 : Hid (ExL ts z2.heap.size z3 v3 dp (j3 + 1) j4 wr4 (E b (lx ts (j3 + 1))) ∧ j3 + 1 ≤ j4 ∧ j4 ≤ ts.length) := ⟨hL4 rfl, hij4, hj4⟩
          have HR3 : Hid (Rdr z3 rb (.slice a ts.length cap) (j4 : Nat) dp wr4) := hR3
          have hn3 : n ≤ 1000000 := by have := HJi.out; omega
          have hb3 : Wq.heap.size ≤ z3.heap.size := Nat.le_trans HEi.out.size HE3.out.size
          have hcv := one_cells hv3
          have hca := one_agg hv3
          clear hE3 hL4 hij4 hj4 hR3
          go_wp2_with (at_builtin; refine app_one 117 58 .nilIface 16 Tryz.underlying117 Tryz.infoPart rfl (by decide) rfl _ _ rfl z3 v3 hv3 Wq.heap.size (.slice sa n sc) n vs rfl rfl HO3.out.2 hn3 hb3 ?_; intro g4 gc4 z4 hO4 hg4 hgb4 hl4)
          have HR4 := HR3.out.grow hg4 (fun k hk => by have := (HO3.out.lo k hk).1; have := HRr.out.lt; omega)
          have hj7 : j4 ≤ ts.length ∧ j < j4 ∧ j3 + 1 ≤ j4 ∧ n + 1 ≤ j4 := by have := HL4.out.2; have := HJi.out; omega
          have hE4 : Exc rb Wq z4 := (HEi.out.trans HE3.out).grown hg4 (fun k hk => (HO3.out.lo k hk).1)
          refine ⟨⟨n + 1, some ⟨g4, 0, none⟩, gc4, vs ++ [v3], j4, wr4, rfl, ⟨by rw [List.length_append, HO3.out.1]; rfl, hO4⟩, HR4, hE4, ⟨hj7.2.1, hj7.1, hj7.2.2.2⟩, ?_⟩, ?_⟩
          · refine IxI.step HI.out HJi.out.2.1 HK9.out HL4.out.1 HL4.out.2 ?_
            intro nss ms hG0 hm
            have hA : ∀ k, w.heap.size ≤ k → k ≠ rb := fun k hk => by omega
            have hs2 : w.heap.size ≤ z2.heap.size := Nat.le_trans (HEr.out.trans HEi.out).size HE2.out.size
            exact (hG0.exc HE3.out hA).snoc HO3.out ((HO.out.exc HE2.out HRr.out.lt).out hm hs2) hO4 hg4 hgb4
          · rw [atOf_is HR4, atOf_is HRi.out]
            omega
        · have hh := fun W h1 h2 => has_kd 9 0 rb a cap ts hl j3 HJi.out.2.1 dp wr3 hk9 W h1 h2
          have HK9 : Hid (kdV ts j3 dp wr3 ≠ 9) := hk9
          clear hk9
          go_wp2_with fail
          refine (sgn_any18 9 wr).mono ?_
          rintro e z1 ⟨rfl, hB⟩
          have HE1 : Hid (Exc rb wr z1) := Exc.bel hB (Nat.le_refl _)
          have HR1 : Hid (Rdr z1 rb (.slice a ts.length cap) (j3 : Nat) dp wr3) := HRi.out.bel hB
          clear hB
          go_wp2_with fail
          refine (hh z1 HR1.out (HTi.out.go (HE1.out.below (by have := HRi.out.lt; omega)))).mono ?_
          rintro e z2 ⟨rfl, hR2, hE2⟩
          have HE2 : Hid (Exc rb wr z2) := HE1.out.trans hE2
          have HR2 : Hid (Rdr z2 rb (.slice a ts.length cap) (j3 : Nat) dp wr3) := hR2
          clear hR2 hE2 hh HE1 HR1
          go_wp2_with fail
          refine (next_any18 8 (by decide) rb a cap ts hl j3 HJi.out.2.1 dp wr3 z2 HR2.out (HTi.out.go (HE2.out.below (by have := HRi.out.lt; omega)))).mono ?_
          rintro e z3 ⟨x0, x1, x2, tx, x4, j5, wr5, rfl, hR3, hE3, hj5a, hj5, hN, _⟩
          have HE3 : Hid (Exc rb wr z3) := HE2.out.trans hE3
          have HR3 : Hid (Rdr z3 rb (.slice a ts.length cap) (j5 : Nat) dp wr5) := hR3
          have HN : Hid (NxO ts j3 dp wr3 8 j5 wr5 ∧ j3 ≤ j5 ∧ j5 ≤ ts.length) := ⟨hN, hj5a, hj5⟩
          clear hR3 hE3 hj5a hj5 hN
          go_wp2_with fail
          have hjj : j < j5 ∧ i ≤ j5 ∧ j5 ≤ ts.length := by have := HJ.out; have := HJi.out; have := HN.out; omega
          have hwb : wb = false := by
            cases hb : wb with
            | false => rfl
            | true =>
              have := (HJ.out.2.1 (by rw [hb]; exact kdV_wr _ _ _)).2
              cases this
          refine ⟨⟨_, j5, wr5, rfl, rfl, HR3.out, HEr.out.trans (HEi.out.trans HE3.out), fun _ => ?_, fun h => ?_, hjj.2.1, hjj.2.2⟩, ?_⟩
          · have hA : ∀ k, w.heap.size ≤ k → k ≠ rb := fun k hk => by omega
            exact TmI.step HW.out HJ.out.2.2.2 HK.out hjj.1 (IxI.fin HI.out HO.out HEr.out.size HJi.out.2.1 HK9.out HN.out.1 (fun nss h => h.exc HE3.out hA)) (fun ns h => h.exc (HEi.out.trans HE3.out) hA)
          · have := (HJ.out.2.1 h).2
            cases this
          · rw [atOf_is HR3.out, atOf_is HRr.out]
            omega
    · have hh := fun W h1 h2 => has_kd 7 0 rb a cap ts hl j HJ.out.2.2.2 dp wr' hk W h1 h2
      have HK : Hid (kdV ts j dp wr' ≠ 7) := hk
      clear hk
      go_wp2_with fail
      refine (sgn_any18 7 Wq).mono ?_
      rintro e y1 ⟨rfl, hB⟩
      have HE1 : Hid (Exc rb Wq y1) := Exc.bel hB (Nat.le_refl _)
      have HR1 : Hid (Rdr y1 rb (.slice a ts.length cap) (j : Nat) dp wr') := HRr.out.bel hB
      clear hB
      go_wp2_with fail
      refine (hh y1 HR1.out (HTr.out.go (HE1.out.below (by have := HRr.out.lt; omega)))).mono ?_
      rintro e y2 ⟨rfl, hR2, hE2⟩
      have HE2 : Hid (Exc rb Wq y2) := HE1.out.trans hE2
      have HR2 : Hid (Rdr y2 rb (.slice a ts.length cap) (j : Nat) dp wr') := hR2
      clear hR2 hE2 hh HE1 HR1
      go_wp2_with fail
      go_ret
      have hA : ∀ k, w.heap.size ≤ k → k ≠ rb := fun k hk => by omega
      exact ⟨v', j, wr', rfl, HV.out, HEr.out.trans HE2.out, HR2.out, HJ.out.2.2.1, HJ.out.2.2.2, fun h => TmI.fin (HJ.out.1 h) HJ.out.2.2.2 HK.out (fun ns h => h.exc HE2.out hA), HJ.out.2.1⟩
end Go.Proofs.YtgjgbgllhbdodaaGreatDoor
