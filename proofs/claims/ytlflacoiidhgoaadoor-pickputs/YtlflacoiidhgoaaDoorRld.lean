/-
  What the reference lays.
-/
import Derived.Deep.QuietTactic
import Derived.BigQuiet
import Derived.Deep.DeepCutAuto
import Derived.Test.YtlflacoiidhgoaaDoorRpk
import Derived.Test.YtlflacoiidhgoaaDoorShaped
import Derived.Test.YtlflacoiidhgoaaDoorPikl
namespace Go.Proofs.YtlflacoiidhgoaaDoor
open Go.RowKit
set_option linter.unusedVariables false

theorem cyc_put {c : Bool} {s dz : List Int} {bys : List Ar} {cv : Bool} {sv dv : List Int} (h : ptE c s dz bys cv sv dv = 0) : cyc dv (prod (pkS bys)).toNat (fillE cv) = putW (prod (pkS bys)).toNat sv dv := by
  obtain ⟨h1, h2, h3, h4⟩ := ptE_zero.1 h
  have hd := (flawE_zero h2).2.1
  refine nth_ext (by rw [cyc_length, putW_len h]) fun j hj => ?_
  rw [cyc_length] at hj
  rw [cyc_nth _ _ _ hj]
  unfold putW cyA
  by_cases h0 : sv.length = 0
  · have e : sv = [] := List.eq_nil_of_length_eq_zero h0
    rw [e] at hd
    have hl : dv.length = 1 := by have : (dv.length : Int) = 1 := hd; omega
    rw [if_pos h0, if_neg (by omega), hl, Nat.mod_one]
    simp [nth, hj]
  · rw [if_neg h0]
    have e := h4.resolve_left h0
    have hl : dv.length = (prod (pkS bys)).toNat := by rw [← e]; omega
    rw [if_neg (by omega), Nat.mod_eq_of_lt (by omega)]
theorem lstV_congr (P Q : Nat → Int) (ws : List Int) (j v : Int) : ∀ n, (∀ i, i < n → P i = Q i) → lstV P ws j v n = lstV Q ws j v n
  | 0, _ => rfl
  | n + 1, h => by
    simp only [lstV]
    rw [h n (by omega), lstV_congr P Q ws j v n fun i hi => h i (by omega)]
/-- The array that is made, as far as it is. -/
def Out7 (v1 : World) (B : Nat) (c : Bool) (g : Option Addr) (gc n : Nat) (S : List Int) (wc : World) : Prop :=
  v1.heap.size ≤ B ∧ Abx wc B (.bool c) (.slice g n gc) (.slice none 0 0) ∧ SepInts v1.heap.size wc.heap.size B wc g S ∧ Below v1.heap.size v1 wc
theorem out7_a {v1 w2 : World} {c : Bool} {g : Option Addr} {gc n : Nat} {S : List Int} (hG : NewInts v1.heap.size w2 g S) (hB : Below v1.heap.size v1 w2) :
    Out7 v1 w2.heap.size c g gc n S (w2.alloc (.cells #[.bool c, .slice g n gc, .slice none 0 0] 24)) :=
  ⟨hB.size, Abx.new w2 _ _ _, ((SepInts.of_new hG (.inr (Nat.le_refl _))).al (Nat.le_refl _) _).high (by simp), hB.alloc hB.size _⟩
theorem out7_b {v1 w2 : World} {c : Bool} {g : Option Addr} {gc n : Nat} {S : List Int} (hG : NewInts (v1.heap.size + 1) w2 g S) (hR : Abx w2 v1.heap.size (.bool false) (.slice none 0 0) (.slice none 0 0)) (hB : Below v1.heap.size v1 w2) :
    Out7 v1 v1.heap.size c g gc n S (((w2.setCell ⟨v1.heap.size, 0, none⟩ (.bool c)).setCell ⟨v1.heap.size, 1, none⟩ (.slice g n gc)).setCell ⟨v1.heap.size, 2, none⟩ (.slice none 0 0)) :=
  ⟨Nat.le_refl _, hR.set3 _ _ _, (((((SepInts.of_new hG (.inl (Nat.lt_succ_self _))).low (Nat.le_succ _)).set 0 _).set 1 _).set 2 _).high (by rw [size_set3]; exact Nat.le_refl _), bel_set3 hB (Nat.le_refl _) _ _ _⟩
theorem pt_al {c : Bool} {s dz : List Int} {bys : List Ar} {cv : Bool} {sv dv : List Int} (h : alE c s dz bys ≠ 0) : ptE c s dz bys cv sv dv = alE c s dz bys := by
  unfold ptE
  by_cases e : flawE c s dz = 0
  · rw [alE_ok _ e] at h ⊢
    rw [if_neg (not_not_intro e), if_pos h]
  · rw [alE_no _ e, if_pos e]
theorem pt_v {c : Bool} {s dz : List Int} {bys : List Ar} {cv : Bool} {sv dv : List Int} (h : flawE c s dz = 0 ∧ flL bys = 0) (hv : flawE cv sv dv ≠ 0) : ptE c s dz bys cv sv dv = flawE cv sv dv := by
  unfold ptE
  rw [if_neg (not_not_intro h.1), if_neg (not_not_intro h.2), if_pos hv]
theorem pt_nm {c : Bool} {s dz : List Int} {bys : List Ar} {cv : Bool} {sv dv : List Int} (h : flawE c s dz = 0 ∧ flL bys = 0) (hv : flawE cv sv dv = 0) (hn : nmE s bys ≠ 0) : ptE c s dz bys cv sv dv = nmE s bys := by
  unfold ptE
  rw [if_neg (not_not_intro h.1), if_neg (not_not_intro h.2), if_neg (not_not_intro hv), if_pos hn]
theorem pt_rest {c : Bool} {s dz : List Int} {bys : List Ar} {cv : Bool} {sv dv : List Int} (h : flawE c s dz = 0 ∧ flL bys = 0) (hv : flawE cv sv dv = 0) (hn : nmE s bys = 0) : ptE c s dz bys cv sv dv = if c ≠ cv then 6 else if sv.length = 0 then 0 else if sv.length ≠ (pkS bys).length then 3 else if sv ≠ pkS bys then 4 else 0 := by
  unfold ptE
  rw [if_neg (not_not_intro h.1), if_neg (not_not_intro h.2), if_neg (not_not_intro hv), if_neg (not_not_intro hn)]
set_option maxRecDepth 100000 in
set_option maxHeartbeats 6000000 in
theorem laid_any (c : Bool) (sa : Option Addr) (sc : Nat) (sz : List Int) (da : Option Addr) (dc : Nat) (dz : List Int) (ba : Option Addr) (bc : Nat) (bs : List ArV) (c' : Bool) (sa' : Option Addr) (sc' : Nat) (sz' : List Int) (da' : Option Addr) (dc' : Nat) (dz' : List Int) (h1 : sz.length ≤ 9223372036854775807) (h2 : dz.length ≤ 9223372036854775807) (h3 : bs.length ≤ 9223372036854775807) (h1' : sz'.length ≤ 9223372036854775807) (h2' : dz'.length ≤ 9223372036854775807) (w : World) (hs : IsInts w.heap.size w sa sz) (hd : IsInts w.heap.size w da dz) (hb : IsAs w.heap.size w ba bs) (hs' : IsInts w.heap.size w sa' sz') (hd' : IsInts w.heap.size w da' dz') :
    Calls Tryd.prog 8 #[.agg #[.bool c, .slice sa sz.length sc, .slice da dz.length dc], .slice ba bs.length bc, .agg #[.bool c', .slice sa' sz'.length sc', .slice da' dz'.length dc']] w (UR (ptE c sz dz (bya bs) c' sz' dz') (onc (ptE c sz dz (bya bs) c' sz' dz') c) (onl (ptE c sz dz (bya bs) c' sz' dz') sz) (onl (ptE c sz dz (bya bs) c' sz' dz') (ptV sz dz (bya bs) sz' dz')) w) := by
  have HI : Hid (IsInts w.heap.size w sa sz ∧ IsInts w.heap.size w da dz ∧ IsInts w.heap.size w sa' sz' ∧ IsInts w.heap.size w da' dz' ∧ IsAs w.heap.size w ba bs) := ⟨hs, hd, hs', hd', hb⟩
  clear hs hd hs' hd' hb
  have hb : Hid (Below w.heap.size w (((w.alloc (.cells #[.bool c, .slice sa sz.length sc, .slice da dz.length dc] 24)).alloc (.cells #[.bool c', .slice sa' sz'.length sc', .slice da' dz'.length dc'] 24)).alloc (.cells #[.bool false, .slice none 0 0, .slice none 0 0] 24))) := (((Below.refl _ w).alloc (Nat.le_refl _) _).alloc (by simp) _).alloc (by simp; omega) _
  have pa := ((Abx.new w (.bool c) (.slice sa sz.length sc) (.slice da dz.length dc)).al (.cells #[.bool c', .slice sa' sz'.length sc', .slice da' dz'.length dc'] 24)).al (.cells #[.bool false, .slice none 0 0, .slice none 0 0] 24)
  have pb := (Abx.new1 w (.cells #[.bool c, .slice sa sz.length sc, .slice da dz.length dc] 24) (.bool c') (.slice sa' sz'.length sc') (.slice da' dz'.length dc')).al (.cells #[.bool false, .slice none 0 0, .slice none 0 0] 24)
  have pr : Abx (((w.alloc (.cells #[.bool c, .slice sa sz.length sc, .slice da dz.length dc] 24)).alloc (.cells #[.bool c', .slice sa' sz'.length sc', .slice da' dz'.length dc'] 24)).alloc (.cells #[.bool false, .slice none 0 0, .slice none 0 0] 24)) (w.heap.size + 1 + 1) (.bool false) (.slice none 0 0) (.slice none 0 0) := by
    have h := Abx.new1 (w.alloc (.cells #[.bool c, .slice sa sz.length sc, .slice da dz.length dc] 24)) (.cells #[.bool c', .slice sa' sz'.length sc', .slice da' dz'.length dc'] 24) (.bool false) (.slice none 0 0) (.slice none 0 0)
    rw [World.size_alloc] at h
    exact h
  have p0 := pa.c0
  have p1 := pa.c1
  have p2 := pa.c2
  go_enter Tryd.func8, Tryd.ntmps8
  go_wp2_with fail
  refine (all_any c sa sc sz da dc dz ba bc bs h1 h2 h3 _ ((HI.out.1.below hb.out).mono hb.out.size) ((HI.out.2.1.below hb.out).mono hb.out.size) ((HI.out.2.2.2.2.below hb.out).mono hb.out.size)).mono ?_
  rintro e v1 ⟨rfl, hB⟩
  have HP : Hid (Abx v1 w.heap.size (.bool c) (.slice sa sz.length sc) (.slice da dz.length dc) ∧ Abx v1 (w.heap.size + 1) (.bool c') (.slice sa' sz'.length sc') (.slice da' dz'.length dc') ∧ Abx v1 (w.heap.size + 1 + 1) (.bool false) (.slice none 0 0) (.slice none 0 0) ∧ Below w.heap.size w v1) := ⟨pa.go hB, pb.go hB, pr.go hB, hb.out.trans (hB.mono hb.out.size)⟩
  have hR1 : (w.heap.size + 1 + 1) < v1.heap.size := HP.out.2.2.1.lt
  clear hB pa pb pr p0 p1 p2 hb
  by_cases he : alE c sz dz (bya bs) = 0
  · rw [he]
    have HF0 : Hid (flawE c sz dz = 0 ∧ flL (bya bs) = 0) := alE_zero he
    have q0 := HP.out.2.1.c0
    have q1 := HP.out.2.1.c1
    have q2 := HP.out.2.1.c2
    clear he
    go_wp2_with fail
    refine (flaw_any c' sa' sc' sz' da' dc' dz' h1' h2' v1 ((HI.out.2.2.1.below HP.out.2.2.2).mono HP.out.2.2.2.size) ((HI.out.2.2.2.1.below HP.out.2.2.2).mono HP.out.2.2.2.size)).mono ?_
    rintro e v2 ⟨rfl, hB⟩
    have HP2 : Hid (Abx v2 w.heap.size (.bool c) (.slice sa sz.length sc) (.slice da dz.length dc) ∧ Abx v2 (w.heap.size + 1) (.bool c') (.slice sa' sz'.length sc') (.slice da' dz'.length dc') ∧ Abx v2 (w.heap.size + 1 + 1) (.bool false) (.slice none 0 0) (.slice none 0 0) ∧ Below w.heap.size w v2) := ⟨HP.out.1.go hB, HP.out.2.1.go hB, HP.out.2.2.1.go hB, HP.out.2.2.2.trans (hB.mono HP.out.2.2.2.size)⟩
    have hR2 : (w.heap.size + 1 + 1) < v2.heap.size := HP2.out.2.2.1.lt
    clear hB q0 q1 q2 HP
    by_cases hv : flawE c' sz' dz' = 0
    · rw [hv]
      have HF : Hid ((flawE c sz dz = 0 ∧ flL (bya bs) = 0) ∧ sz.length ≤ 6 ∧ dz.length ≤ 4096 ∧ flawE c' sz' dz' = 0 ∧ sz'.length ≤ 6) := ⟨HF0.out, (flawE_short HF0.out.1).1, (flawE_short HF0.out.1).2, hv, (flawE_short hv).1⟩
      have p0 := HP2.out.1.c0
      have p1 := HP2.out.1.c1
      have p2 := HP2.out.1.c2
      clear hv
      go_wp2_with fail
      refine (named_any c sa sc sz da dc dz ba bc bs h3 HF.out.1.1 HF.out.1.2 v2 ((HI.out.1.below HP2.out.2.2.2).mono HP2.out.2.2.2.size) ((HI.out.2.2.2.2.below HP2.out.2.2.2).mono HP2.out.2.2.2.size)).mono ?_
      rintro e v3 ⟨g, gc, ga, gd, rfl, hS, hPl, hB⟩
      have HP3 : Hid (Abx v3 w.heap.size (.bool c) (.slice sa sz.length sc) (.slice da dz.length dc) ∧ Abx v3 (w.heap.size + 1) (.bool c') (.slice sa' sz'.length sc') (.slice da' dz'.length dc') ∧ Abx v3 (w.heap.size + 1 + 1) (.bool false) (.slice none 0 0) (.slice none 0 0) ∧ Below w.heap.size w v3) := ⟨HP2.out.1.go hB, HP2.out.2.1.go hB, HP2.out.2.2.1.go hB, HP2.out.2.2.2.trans (hB.mono HP2.out.2.2.2.size)⟩
      have hR3 : (w.heap.size + 1 + 1) < v3.heap.size := HP3.out.2.2.1.lt
      clear hB p0 p1 p2 HP2
      by_cases hn : nmE sz (bya bs) = 0
      · rw [onl_ok hn] at hS hPl
        rw [onl_ok hn, onl_ok hn, hn]
        obtain ⟨S, hS0⟩ : ∃ S, S = pkS (bya bs) := ⟨_, rfl⟩
        obtain ⟨P, hP0⟩ : ∃ P, P = plL sz (bya bs) := ⟨_, rfl⟩
        rw [← hS0, ← hP0]
        rw [← hS0] at hS
        rw [← hP0] at hPl
        have HS : Hid (S = pkS (bya bs) ∧ P = plL sz (bya bs)) := ⟨hS0, hP0⟩
        have HN : Hid (nmE sz (bya bs) = 0 ∧ S = pkS (bya bs) ∧ True ∧ errOf S = 0) := ⟨hn, hS0, trivial, by rw [hS0]; exact (nmE_zero.1 hn).2.2.1⟩
        have HW3 : Hid (Abx v3 w.heap.size (.bool c) (.slice sa sz.length sc) (.slice da dz.length dc) ∧ Abx v3 (w.heap.size + 1) (.bool c') (.slice sa' sz'.length sc') (.slice da' dz'.length dc') ∧ Abx v3 (w.heap.size + 1 + 1) (.bool false) (.slice none 0 0) (.slice none 0 0) ∧ NewC v2.heap.size v3 g S gc ∧ NewInts v2.heap.size v3 ga P ∧ Below w.heap.size w v3) := ⟨HP3.out.1, HP3.out.2.1, HP3.out.2.2.1, hS, hPl, HP3.out.2.2.2⟩
        have hS6 : S.length ≤ 6 := (errOf_zero.1 HN.out.2.2.2).1
        have hz6' : sz'.length ≤ 6 := HF.out.2.2.2.2
        have HR : Hid _ := pt_rest (cv := c') (sv := sz') (dv := dz') HF.out.1 HF.out.2.2.2.1 hn
        have p0 := HP3.out.1.c0
        have q0 := HP3.out.2.1.c0
        have q1 := HP3.out.2.1.c1
        clear hn hS hPl hS0 hP0
        by_cases hcc : c = c'
        · subst hcc
          have tc : (c != c) = false := by simp
          by_cases h0 : sz'.length = 0
          · have HE : Hid ((ptE c sz dz (bya bs) c sz' dz') = 0) := by show _ = _; rw [HR.out, if_neg (by simp), if_pos h0]
            have t0 : decide (0 < (sz'.length : Int)) = false := by simp [h0]
            have t9 : decide (0 < sz'.length) = false := by simp [h0]
            have t8 : ¬ 0 < sz'.length := by omega
            obtain ⟨v4, hv4⟩ : ∃ v4, v4 = v3 := ⟨_, rfl⟩
            subst hv4
            have HW4 : Hid (Abx v4 w.heap.size (.bool c) (.slice sa sz.length sc) (.slice da dz.length dc) ∧ Abx v4 (w.heap.size + 1) (.bool c) (.slice sa' sz'.length sc') (.slice da' dz'.length dc') ∧ Abx v4 (w.heap.size + 1 + 1) (.bool false) (.slice none 0 0) (.slice none 0 0) ∧ NewC v2.heap.size v4 g S gc ∧ NewInts v2.heap.size v4 ga P ∧ Below w.heap.size w v4) := HW3.out
            clear h0 HR
            go_upto_region 19 with fail
            clear p0 q0 q1 tc t0 t9 t8
            obtain ⟨q, hq⟩ : ∃ q : Nat, q = P.length := ⟨_, rfl⟩
            have HL : Hid (q = P.length ∧ (q : Int) = prod S ∧ (prod (pkS (bya bs))).toNat = q) := by
              have hp := prod_nonneg (errOf_zero.1 HN.out.2.2.2).2.1
              have h1 : P.length = (prod S).toNat := by rw [HS.out.2, HS.out.1, plL_length]
              have h2 : (prod (pkS (bya bs))).toNat = q := by rw [← HS.out.1, hq, h1]
              exact ⟨hq, by rw [hq, h1]; omega, h2⟩
            have hq4 : q ≤ 4096 := by have := (errOf_zero.1 HN.out.2.2.2).2.2; have := HL.out.2.1; omega
            have hS6 : S.length ≤ 6 := (errOf_zero.1 HN.out.2.2.2).1
            obtain ⟨Wl, hWl⟩ : ∃ Wl, Wl = cyc dz' q (fillE c) := ⟨_, rfl⟩
            have HWl : Hid (Wl = putW q sz' dz' ∧ Wl.length = q) := ⟨by rw [hWl, ← HL.out.2.2]; exact cyc_put HE.out, by rw [hWl, cyc_length]⟩
            obtain ⟨V, hV⟩ : ∃ V, V = ptV sz dz (bya bs) sz' dz' := ⟨_, rfl⟩
            have HV : Hid (V = ptV sz dz (bya bs) sz' dz' ∧ V.length = dz.length) := ⟨hV, by rw [hV, ptV_length]⟩
            have HVn : Hid (∀ k, k < dz.length → nth V k = lstV (nth P) Wl (k : Int) (nth dz k) q) := fun k hk => by
              rw [hV, ptV_nth _ _ _ _ _ hk, HL.out.2.2, HWl.out.1]
              refine (lstV_congr _ _ _ _ _ q fun i hi => ?_).symm
              rw [HS.out.2, plL_nth _ _ (by rw [HL.out.2.2]; exact hi)]
            have hVl : V.length ≤ dz.length ∧ dz.length ≤ V.length := by have := HV.out.2; omega
            have hd4 : dz.length ≤ 4096 := HF.out.2.2.1
            have hz6 : sz.length ≤ 6 := HF.out.2.1
            have q0 := HW4.out.2.1.c0
            have q1 := HW4.out.2.1.c1
            have q2 := HW4.out.2.1.c2
            clear hV
            go_wp2_with fail
            refine (shaped_any g gc S q c sa' sc' sz' da' dc' dz' hS6 hq4 h2' v4 HW4.out.2.2.2.1.1.ints ((HI.out.2.2.2.1.below HW4.out.2.2.2.2.2).mono HW4.out.2.2.2.2.2.size) HN.out.2.2.2 HL.out.2.1).mono ?_
            rintro e v5 ⟨xa, xc, ya, yc, rfl, hXa, hYa, hB5⟩
            rw [← hWl] at hYa ⊢
            obtain ⟨B2, hB2⟩ : ∃ B2, B2 = v5.heap.size := ⟨_, rfl⟩
            obtain ⟨v6, hv6⟩ : ∃ v6, v6 = v5.alloc (.cells #[.bool c, .slice xa S.length xc, .slice ya Wl.length yc] 24) := ⟨_, rfl⟩
            have HV6 : Hid (v6 = v5.alloc (.cells #[.bool c, .slice xa S.length xc, .slice ya Wl.length yc] 24) ∧ B2 = v5.heap.size) := ⟨hv6, hB2⟩
            have HW6 : Hid (Abx v6 w.heap.size (.bool c) (.slice sa sz.length sc) (.slice da dz.length dc) ∧ Abx v6 (w.heap.size + 1 + 1) (.bool false) (.slice none 0 0) (.slice none 0 0) ∧ Abx v6 B2 (.bool c) (.slice xa S.length xc) (.slice ya Wl.length yc) ∧ IsInts v6.heap.size v6 ya Wl ∧ IsInts v6.heap.size v6 ga P ∧ Below w.heap.size w v6) := by
              rw [hv6, hB2]
              exact ⟨(HW4.out.1.go hB5).al _, (HW4.out.2.2.1.go hB5).al _, Abx.new v5 _ _ _, (hYa.al _).ints, ((HW4.out.2.2.2.2.1.go hB5).al _).ints, (HW4.out.2.2.2.2.2.trans (hB5.mono HW4.out.2.2.2.2.2.size)).alloc (by have := HW4.out.2.2.2.2.2.size; have := hB5.size; omega) _⟩
            have h26 : w.heap.size + 1 + 1 < v6.heap.size := HW6.out.2.1.lt
            have p0 := HW6.out.1.c0
            have p1 := HW6.out.1.c1
            clear hWl hq hXa hYa hB5 q0 q1 q2 hv6 hB2
            go_upto_region 20 with fail
            rw [← HV6.out.2, ← HV6.out.1]
            go_cut [13] (fun s13 wc => ∃ B h hc, s13 = .pointer (some ⟨B, 0, none⟩) ∧ Out7 v6 B c h hc sz.length sz wc)
            case first =>
              have hbW : Hid (Below v6.heap.size v6 v6.drew) := (Below.refl _ v6).drew
              refine anyT_begin 7 (fun w' => w'.cell? ⟨w.heap.size, 0, none⟩ = some (.bool c) ∧ w'.cell? ⟨w.heap.size, 1, none⟩ = some (.slice sa sz.length sc)) 8 #[false, false, false, false, false, false, false, false] (by kernel_rfl) rfl rfl ?_
              refine anyT_put 0 76 ?rv39 #[true, false, false, false, false, false, false, false] rfl rfl rfl (by kernel_rfl) (by kernel_rfl) (by kernel_rfl) (fun _ _ _ h => h) (by decide) ?ry39 (fun _ => ⟨p0, p1⟩) ?rm39
              case ry39 => first | exact Or.inl ⟨by rfl, by intro w'; go_simp; first | done | rfl⟩
              case rm39 =>
              simp only [Act.put, List.setIfInBounds_toArray, List.set_cons_zero, List.set_cons_succ]
              refine anyT_take 1 77 ?rv40 #[true, true, false, false, false, false, false, false] rfl rfl rfl (by kernel_rfl) (by kernel_rfl) (by kernel_rfl) (fun _ _ _ h => h) (by kernel_rfl) (by decide) (by kernel_rfl) ?ry40 (⟨p0, p1⟩) ?rm40
              case ry40 => first | exact Or.inl ⟨by rfl, by intro w' hw'; (try dsimp only at hw'); go_simp; first | done | rfl⟩
              case rm40 =>
              simp only [Act.put, List.setIfInBounds_toArray, List.set_cons_zero, List.set_cons_succ]
              refine anyT_put 2 78 ?rv41 #[true, true, true, false, false, false, false, false] rfl rfl rfl (by kernel_rfl) (by kernel_rfl) (by kernel_rfl) (fun _ _ _ h => h) (by decide) ?ry41 (fun _ => ⟨p0, p1⟩) ?rm41
              case ry41 => first | exact Or.inl ⟨by rfl, by intro w'; go_simp; first | done | rfl⟩
              case rm41 =>
              simp only [Act.put, List.setIfInBounds_toArray, List.set_cons_zero, List.set_cons_succ]
              refine anyT_take 3 79 ?rv42 #[true, true, true, true, false, false, false, false] rfl rfl rfl (by kernel_rfl) (by kernel_rfl) (by kernel_rfl) (fun _ _ _ h => h) (by kernel_rfl) (by decide) (by kernel_rfl) ?ry42 (⟨p0, p1⟩) ?rm42
              case ry42 => first | exact Or.inl ⟨by rfl, by intro w' hw'; (try dsimp only at hw'); go_simp; first | done | rfl⟩
              case rm42 =>
              simp only [Act.put, List.setIfInBounds_toArray, List.set_cons_zero, List.set_cons_succ]
              refine anyT_br2 4 6 #[true, true, true, true, true, false, false, false] #[true, true, true, true, false, false, true, false] (by kernel_rfl) rfl rfl rfl rfl (fun K hK => ?ba43) (fun K hK => ?bb43)
              case ba43 =>
                go_simp
                go_wp2_with (go_at_call 18; refine (copied_any sa sc sz (by omega) (v6.drew) ((HI.out.1.below (HW6.out.2.2.2.2.2.trans (hbW.out.mono HW6.out.2.2.2.2.2.size))).mono (Nat.le_trans HW6.out.2.2.2.2.2.size hbW.out.size))).mono ?_; rintro e w2 ⟨h, hc, rfl, hG, hBc⟩)
                have hbWa : Hid (Below v6.heap.size v6 w2) := hbW.out.trans (hBc.mono hbW.out.size)
                have pc := HW6.out.1.go hbWa.out
                try (have rB : Abx w2 v6.heap.size (.bool false) (.slice none 0 0) (.slice none 0 0) := RB.out.go hBc)
                try (have r0 := rB.c0)
                try (have r1 := rB.c1)
                try (have r2 := rB.c2)
                try (have f0 := rB.fr 0)
                try (have f1 := rB.fr 1)
                try (have f2 := rB.fr 2)
                refine hK.out _ _ (fun _ => ⟨pc.c0, pc.c1⟩) ?_
                clear hK K
                refine anyT_put 5 81 ?rv44 #[true, true, true, true, true, true, false, false] rfl rfl rfl (by kernel_rfl) (by kernel_rfl) (by kernel_rfl) (fun _ _ _ h => h) (by decide) ?ry44 (fun _ => ⟨pc.c0, pc.c1⟩) ?rm44
                case ry44 => first | exact Or.inl ⟨by rfl, by intro w'; go_simp; first | done | rfl⟩
                case rm44 =>
                simp only [Act.put, List.setIfInBounds_toArray, List.set_cons_zero, List.set_cons_succ]
                refine anyT_one 6 #[true, true, true, true, true, true, true, false] (by kernel_rfl) rfl rfl (fun K hK => ?_)
                go_simp
                have hbWab : Hid (Below v6.heap.size v6 (w2.alloc (.cells #[.bool false, .slice none 0 0, .slice none 0 0] 24))) := hbWa.out.alloc hbWa.out.size _
                have pda := HW6.out.1.go hbWab.out
                have RB : Hid (Abx (w2.alloc (.cells #[.bool false, .slice none 0 0, .slice none 0 0] 24)) w2.heap.size (.bool false) (.slice none 0 0) (.slice none 0 0)) := Abx.new _ _ _ _
                refine hK.out _ _ (fun _ => ⟨pda.c0, pda.c1⟩) ?_
                clear hK K
                refine anyT_one 7 #[true, true, true, true, true, true, true, true] (by kernel_rfl) rfl rfl (fun K hK => ?_)
                go_simp
                refine hK.out _ _ (fun h => absurd h (by decide)) ?_
                clear hK K
                refine anyT_done (by kernel_rfl) ?_
                go_wp2_with fail
                go_meet
                first | exact ⟨_, h, hc, rfl, out7_a hG hbWa.out⟩ | exact ⟨_, h, hc, rfl, out7_b (by have h := hG; rw [World.size_alloc] at h; exact h) rB hbWba.out⟩
              case bb43 =>
                go_simp
                have hbWb : Hid (Below v6.heap.size v6 ((v6.drew).alloc (.cells #[.bool false, .slice none 0 0, .slice none 0 0] 24))) := hbW.out.alloc hbW.out.size _
                have pd := HW6.out.1.go hbWb.out
                have RB : Hid (Abx ((v6.drew).alloc (.cells #[.bool false, .slice none 0 0, .slice none 0 0] 24)) (v6.drew).heap.size (.bool false) (.slice none 0 0) (.slice none 0 0)) := Abx.new _ _ _ _
                refine hK.out _ _ (fun _ => ⟨pd.c0, pd.c1⟩) ?_
                clear hK K
                refine anyT_one 4 #[true, true, true, true, true, false, true, false] (by kernel_rfl) rfl rfl (fun K hK => ?_)
                go_simp
                go_wp2_with (go_at_call 18; refine (copied_any sa sc sz (by omega) ((v6.drew).alloc (.cells #[.bool false, .slice none 0 0, .slice none 0 0] 24)) ((HI.out.1.below (HW6.out.2.2.2.2.2.trans (hbWb.out.mono HW6.out.2.2.2.2.2.size))).mono (Nat.le_trans HW6.out.2.2.2.2.2.size hbWb.out.size))).mono ?_; rintro e w2 ⟨h, hc, rfl, hG, hBc⟩)
                have hbWba : Hid (Below v6.heap.size v6 w2) := hbWb.out.trans (hBc.mono hbWb.out.size)
                have pcb := HW6.out.1.go hbWba.out
                try (have rB : Abx w2 v6.heap.size (.bool false) (.slice none 0 0) (.slice none 0 0) := RB.out.go hBc)
                try (have r0 := rB.c0)
                try (have r1 := rB.c1)
                try (have r2 := rB.c2)
                try (have f0 := rB.fr 0)
                try (have f1 := rB.fr 1)
                try (have f2 := rB.fr 2)
                refine hK.out _ _ (fun _ => ⟨pcb.c0, pcb.c1⟩) ?_
                clear hK K
                refine anyT_put 5 81 ?rv48 #[true, true, true, true, true, true, true, false] rfl rfl rfl (by kernel_rfl) (by kernel_rfl) (by kernel_rfl) (fun _ _ _ h => h) (by decide) ?ry48 (fun _ => ⟨pcb.c0, pcb.c1⟩) ?rm48
                case ry48 => first | exact Or.inl ⟨by rfl, by intro w'; go_simp; first | done | rfl⟩
                case rm48 =>
                simp only [Act.put, List.setIfInBounds_toArray, List.set_cons_zero, List.set_cons_succ]
                refine anyT_one 7 #[true, true, true, true, true, true, true, true] (by kernel_rfl) rfl rfl (fun K hK => ?_)
                go_simp
                refine hK.out _ _ (fun h => absurd h (by decide)) ?_
                clear hK K
                refine anyT_done (by kernel_rfl) ?_
                go_wp2_with fail
                go_meet
                first | exact ⟨_, h, hc, rfl, out7_a hG hbWa.out⟩ | exact ⟨_, h, hc, rfl, out7_b (by have h := hG; rw [World.size_alloc] at h; exact h) rB hbWba.out⟩
            case rest =>
              obtain ⟨B, h, hc, rfl, hO⟩ := hcut
              obtain ⟨v7, hv7⟩ : ∃ v7, v7 = wc := ⟨_, rfl⟩
              subst hv7
              have HO : Hid (Abx v7 B (.bool c) (.slice h sz.length hc) (.slice none 0 0) ∧ SepInts v6.heap.size v7.heap.size B v7 h sz ∧ Below v6.heap.size v6 v7) := ⟨hO.2.1, hO.2.2.1, hO.2.2.2⟩
              have hBl : v6.heap.size ≤ B := hO.1
              have hB7 : B < v7.heap.size := hO.2.1.lt
              have h67 : v6.heap.size ≤ v7.heap.size := hO.2.2.2.size
              clear hO p0 p1
              go_wp2_with fail
              go_loopw [14] (fun i wx => ∃ (k : Nat) (v : Value), k ≤ dz.length ∧ i = .int .i64 k ∧ Abx wx B (.bool c) (.slice h sz.length hc) v ∧ wx.ownsRow v7.heap.size 3 1 v (V.take k).length ((V.take k).map (Value.int .i64)) ∧ SepInts v6.heap.size v7.heap.size B wx h sz ∧ v7.heap.size ≤ wx.heap.size ∧ Below v6.heap.size v6 wx) (fun i _ => dz.length - (intOf i).toNat)
              case atStart => exact ⟨0, .slice none 0 0, Nat.zero_le _, rfl, HO.out.1, World.ownsRow_nil _ _ _ _, HO.out.2.1, Nat.le_refl _, HO.out.2.2⟩
              case round =>
                obtain ⟨k, v, hk, rfl, hU, hown, hSp, hsx, hBx⟩ := hrel
                have HBw : Hid (Below w.heap.size w wr) := HW6.out.2.2.2.2.2.trans (hBx.mono HW6.out.2.2.2.2.2.size)
                have HP6 : Hid (Abx wr w.heap.size (.bool c) (.slice sa sz.length sc) (.slice da dz.length dc) ∧ Abx wr (w.heap.size + 1 + 1) (.bool false) (.slice none 0 0) (.slice none 0 0) ∧ Abx wr B2 (.bool c) (.slice xa S.length xc) (.slice ya Wl.length yc) ∧ IsInts v6.heap.size wr ya Wl ∧ IsInts v6.heap.size wr ga P) := ⟨HW6.out.1.go hBx, HW6.out.2.1.go hBx, HW6.out.2.2.1.go hBx, HW6.out.2.2.2.1.below hBx, HW6.out.2.2.2.2.1.below hBx⟩
                have HQ : Hid (Abx wr B (.bool c) (.slice h sz.length hc) v ∧ wr.ownsRow v7.heap.size 3 1 v (V.take k).length ((V.take k).map (Value.int .i64)) ∧ SepInts v6.heap.size v7.heap.size B wr h sz ∧ Below v6.heap.size v6 wr) := ⟨hU, hown, hSp, hBx⟩
                have p2 := HP6.out.1.c2
                by_cases hlt : k < dz.length
                · obtain ⟨bd, od, rfl, hbd, hcD⟩ := (HI.out.2.1.below HBw.out).at hlt
                  have cd := hcD k hlt
                  obtain ⟨u, hu⟩ : ∃ u, u = wr := ⟨_, rfl⟩
                  subst hu
                  clear hU hown hSp hBx hcD
                  go_wp2_with fail
                  go_loopw [16, 15] (fun i x wx => ∃ m : Nat, m ≤ q ∧ i = .int .i64 m ∧ x = .int .i64 (lstV (nth P) Wl (k : Int) (nth dz k) m) ∧ wx = u) (fun i _ _ => q - (intOf i).toNat)
                  case atStart => exact ⟨0, Nat.zero_le _, rfl, rfl, rfl⟩
                  case round =>
                    obtain ⟨m, hm, rfl, rfl, hwx⟩ := hrel
                    obtain rfl := hwx.symm
                    by_cases hml : m < q
                    · obtain ⟨bp, op, rfl, hbp, hcP⟩ := HP6.out.2.2.2.2.at (q := m) (by rw [← HL.out.1]; exact hml)
                      have cp := hcP m (by rw [← HL.out.1]; exact hml)
                      have HSt : Hid (lstV (nth P) Wl (k : Int) (nth dz k) (m + 1) = if nth P m = (k : Int) then nth Wl m else lstV (nth P) Wl (k : Int) (nth dz k) m) := rfl
                      obtain ⟨y0, hy0⟩ : ∃ y0, y0 = nth P m := ⟨_, rfl⟩
                      rw [← hy0] at cp HSt
                      clear hcP hy0
                      have hqP : m < P.length := by rw [← HL.out.1]; exact hml
                      by_cases hy : y0 = (k : Int)
                      · have ty : (y0 == (k : Int)) = true := by simp [hy]
                        have HN1 : Hid (lstV (nth P) Wl (k : Int) (nth dz k) (m + 1) = nth Wl m) := by show _ = _; rw [HSt.out, if_pos hy]
                        obtain ⟨by1, oy, rfl, hby, hcY⟩ := HP6.out.2.2.2.1.at (q := m) (by rw [HWl.out.2]; exact hml)
                        have cy := hcY m (by rw [HWl.out.2]; exact hml)
                        have o2 := HP6.out.2.2.1.c2
                        have hmW : m < Wl.length := by rw [HWl.out.2]; exact hml
                        clear hcY hy HSt
                        go_wp2_with fail
                        exact ⟨⟨m + 1, by omega, by go_num, int_eq HN1.out.symm, by first | rfl | trivial⟩, by simp [intOf]; omega⟩
                      · have ty : (y0 == (k : Int)) = false := by simpa using hy
                        have HN1 : Hid (lstV (nth P) Wl (k : Int) (nth dz k) (m + 1) = lstV (nth P) Wl (k : Int) (nth dz k) m) := by show _ = _; rw [HSt.out, if_neg hy]
                        clear hy HSt
                        go_wp2_with fail
                        exact ⟨⟨m + 1, by omega, by go_num, int_eq HN1.out.symm, by first | rfl | trivial⟩, by simp [intOf]; omega⟩
                    · obtain rfl : m = q := by omega
                      have HX : Hid (lstV (nth P) Wl (k : Int) (nth dz k) m = nth V k) := (HVn.out k hlt).symm
                      rw [HX.out]
                      have hqP : ¬ m < P.length := by rw [← HL.out.1]; omega
                      obtain ⟨y0, hy0⟩ : ∃ y0, y0 = nth V k := ⟨_, rfl⟩
                      rw [← hy0]
                      have HY0 : Hid (y0 = nth V k) := hy0
                      have hown := HQ.out.2.1
                      have o2 := HQ.out.1.c2
                      have hkV : k ≤ V.length := by omega
                      have hwu : w.heap.size ≤ u.heap.size := HBw.out.size
                      clear hy0 hml p2 cd
                      go_wp2_with (at_builtin; refine app_list rfl _ _ rfl _ v7.heap.size u.heap.size v (V.take k) y0 rfl rfl (hown.alloc _) (heap_alloc_new u _) (by rw [take_lenR _ hkV]; omega) (by simp; omega) ?_; intro g1 gc1 w4 hown1 hB4; have HO1 := (HQ.out.1.al (.cells #[.int .i64 y0] 3)).bel hB4 (by omega); have x2 := HO1.c2; have xf := HO1.fr 2)
                      rw [HY0.out, ← take_snoc V k (by omega), take_lenR V hkV] at hown1
                      have hz4 := hB4.size
                      simp at hz4
                      refine ⟨⟨k + 1, _, by omega, by go_num, HO1.s2 _, ?_, ?_, by simp [World.setCell]; omega, ?_⟩, by simp [intOf]; omega⟩
                      · rw [take_lenR V (show k + 1 ≤ V.length by omega)]
                        have hmin : min k V.length = k := by omega
                        first
                          | exact ownsRow_setCell_below hown1 (by show B < v7.heap.size; omega) _
                          | (rw [hmin]; exact ownsRow_setCell_below hown1 (by show B < v7.heap.size; omega) _)
                      · exact ((HQ.out.2.2.1.al (by omega) _).bel hB4).set 2 _
                      · exact ((HQ.out.2.2.2.alloc HQ.out.2.2.2.size _).trans (hB4.mono (by omega))).setCell (p := ⟨B, 2, none⟩) hBl _
                · obtain rfl : k = dz.length := by omega
                  rw [List.take_of_length_le (by omega)] at hown
                  obtain ⟨g1, gc1, rfl, hN1⟩ := owns_new hown
                  have o0 := hU.c0
                  have o1 := hU.c1
                  have o2 := hU.c2
                  have r_0 := HP6.out.2.1.c0
                  have r_1 := HP6.out.2.1.c1
                  have r_2 := HP6.out.2.1.c2
                  have f_0 := HP6.out.2.1.fr 0
                  have f_1 := HP6.out.2.1.fr 1
                  have f_2 := HP6.out.2.1.fr 2
                  clear hown hlt
                  go_wp2_with fail
                  have FF := HP6.out.2.1.set3 (.bool c) (.slice h sz.length hc) (.slice g1 V.length gc1)
                  have q0' := FF.c0
                  have q1' := FF.c1
                  have q2' := FF.c2
                  refine bodyPost_ret (v := .tuple #[.agg #[.bool c, .slice h sz.length hc, .slice g1 V.length gc1], .int .i64 0]) (by simp [results, Tryd.results8, go_sem, q0', q1', q2']) rfl ?_
                  have hX := ((hSp.new hsx).set3 (b := w.heap.size + 1 + 1) (by omega) (.bool c) (.slice h sz.length hc) (.slice g1 V.length gc1)).low (lo' := w.heap.size) (by omega)
                  have hY := (hN1.set3 (b := w.heap.size + 1 + 1) (by omega) (.bool c) (.slice h sz.length hc) (.slice g1 V.length gc1)).low (lo' := w.heap.size) (by omega)
                  have hZ := bel_set3 HBw.out (b := w.heap.size + 1 + 1) (by omega) (.bool c) (.slice h sz.length hc) (.slice g1 V.length gc1)
                  have hUR := UR.ok (c := c) (xc := hc) (yc := gc1) HE.out hX hY hZ
                  have hE1 := HV.out.1
                  rw [← hE1]
                  exact hUR
          · have t0 : decide (0 < (sz'.length : Int)) = true := by simp; omega
            have t9 : 0 < sz'.length := by omega
            by_cases hlr : sz'.length = S.length
            · have tl : ((sz'.length : Int) != (S.length : Int)) = false := by simp [hlr]
              have HLR : Hid (sz'.length = S.length ∧ sz'.length ≠ 0) := ⟨hlr, h0⟩
              clear h0 hlr
              go_wp2_with fail
              clear p0 q0 q1 tc t0 tl
              go_loopw [11] (fun i wx => ∃ k : Nat, k ≤ S.length ∧ i = .int .i64 k ∧ (∀ j, j < k → nth sz' j = nth S j) ∧ Abx wx w.heap.size (.bool c) (.slice sa sz.length sc) (.slice da dz.length dc) ∧ Abx wx (w.heap.size + 1) (.bool c) (.slice sa' sz'.length sc') (.slice da' dz'.length dc') ∧ Abx wx (w.heap.size + 1 + 1) (.bool false) (.slice none 0 0) (.slice none 0 0) ∧ NewC v2.heap.size wx g S gc ∧ NewInts v2.heap.size wx ga P ∧ Below w.heap.size w wx) (fun i _ => S.length - (intOf i).toNat)
              case atStart => exact ⟨0, Nat.zero_le _, rfl, fun j hj => absurd hj (Nat.not_lt_zero _), HW3.out⟩
              case round =>
                obtain ⟨k, hk, rfl, hall, hW⟩ := hrel
                have HAl : Hid (∀ j, j < k → nth sz' j = nth S j) := hall
                have HW : Hid (Abx wr w.heap.size (.bool c) (.slice sa sz.length sc) (.slice da dz.length dc) ∧ Abx wr (w.heap.size + 1) (.bool c) (.slice sa' sz'.length sc') (.slice da' dz'.length dc') ∧ Abx wr (w.heap.size + 1 + 1) (.bool false) (.slice none 0 0) (.slice none 0 0) ∧ NewC v2.heap.size wr g S gc ∧ NewInts v2.heap.size wr ga P ∧ Below w.heap.size w wr) := hW
                clear hall hW
                by_cases hlt : k < S.length
                · have q1 := HW.out.2.1.c1
                  have hlt' : k < sz'.length := by rw [HLR.out.1]; exact hlt
                  obtain ⟨bz, oz, rfl, hbz, hcZ⟩ := (HI.out.2.2.1.below HW.out.2.2.2.2.2).at hlt'
                  have cz := hcZ k hlt'
                  have hgI := HW.out.2.2.2.1.1.ints
                  obtain ⟨bg, og, rfl, hbg, hcG⟩ := hgI.at hlt
                  have cg := hcG k hlt
                  obtain ⟨a0, ha0⟩ : ∃ a0, a0 = nth sz' k := ⟨_, rfl⟩
                  obtain ⟨b0, hb0⟩ : ∃ b0, b0 = nth S k := ⟨_, rfl⟩
                  rw [← ha0] at cz
                  rw [← hb0] at cg
                  have HAB : Hid (nth sz' k = a0 ∧ nth S k = b0) := ⟨ha0.symm, hb0.symm⟩
                  clear hcZ hcG hgI ha0 hb0
                  by_cases hab : a0 = b0
                  · have tb : (a0 != b0) = false := by simp [hab]
                    have HA2 : Hid (∀ j, j < k + 1 → nth sz' j = nth S j) := fun j hj => by
                      by_cases e : j = k
                      · rw [e, HAB.out.1, HAB.out.2]; exact hab
                      · exact HAl.out j (by omega)
                    clear hab
                    go_wp2_with fail
                    go_quiet (fail)
                    go_wp2_with fail
                    exact ⟨⟨k + 1, by omega, by go_num, HA2.out, HW.out.1, HW.out.2.1, HW.out.2.2.1, HW.out.2.2.2.1, HW.out.2.2.2.2.1, bel_drewN HW.out.2.2.2.2.2 _⟩, by simp [intOf]; omega⟩
                  · have tb : (a0 != b0) = true := by simpa using hab
                    have HE : Hid ((ptE c sz dz (bya bs) c sz' dz') = 4) := by
                      show _ = _
                      rw [HR.out, if_neg (by simp), if_neg HLR.out.2, if_neg (by rw [← HS.out.1]; exact not_not_intro HLR.out.1), if_pos (fun e => hab (by rw [← HAB.out.1, ← HAB.out.2, e, HS.out.1]))]
                    clear hab
                    go_wp2_with fail
                    go_quiet (fail)
                    obtain ⟨v4, hv4⟩ : ∃ v4, v4 = wr.drewN nq := ⟨_, rfl⟩
                    rw [← hv4]
                    have HR4 : Hid (Abx v4 (w.heap.size + 1 + 1) (.bool false) (.slice none 0 0) (.slice none 0 0) ∧ Below w.heap.size w v4) := by rw [hv4]; exact ⟨HW.out.2.2.1, bel_drewN HW.out.2.2.2.2.2 _⟩
                    clear hv4 q1 cz cg
                    have r_0 := HR4.out.1.c0
                    have r_1 := HR4.out.1.c1
                    have r_2 := HR4.out.1.c2
                    have f_0 := HR4.out.1.fr 0
                    have f_1 := HR4.out.1.fr 1
                    have f_2 := HR4.out.1.fr 2
                    go_wp2_with fail
                    have FF := HR4.out.1.set3 (.bool false) (.slice none 0 0) (.slice none 0 0)
                    have q0 := FF.c0
                    have q1 := FF.c1
                    have q2 := FF.c2
                    exact bodyPost_ret (v := .tuple #[.agg #[.bool false, .slice none 0 0, .slice none 0 0], .int .i64 4]) (by simp [results, Tryd.results8, go_sem, q0, q1, q2]) rfl (UR.no HE.out (by decide) (bel_set3 HR4.out.2 (by omega) _ _ _))
                · obtain rfl : k = S.length := by omega
                  have HE : Hid ((ptE c sz dz (bya bs) c sz' dz') = 0) := by
                    show _ = _
                    have e : sz' = pkS (bya bs) := by rw [← HS.out.1]; exact nth_ext HLR.out.1 fun j hj => HAl.out j (by rw [← HLR.out.1]; exact hj)
                    rw [HR.out, if_neg (by simp), if_neg HLR.out.2, if_neg (by rw [← HS.out.1]; exact not_not_intro HLR.out.1), if_neg (not_not_intro e)]
                  obtain ⟨v4, hv4⟩ : ∃ v4, v4 = wr := ⟨_, rfl⟩
                  subst hv4
                  have HW4 : Hid (Abx v4 w.heap.size (.bool c) (.slice sa sz.length sc) (.slice da dz.length dc) ∧ Abx v4 (w.heap.size + 1) (.bool c) (.slice sa' sz'.length sc') (.slice da' dz'.length dc') ∧ Abx v4 (w.heap.size + 1 + 1) (.bool false) (.slice none 0 0) (.slice none 0 0) ∧ NewC v2.heap.size v4 g S gc ∧ NewInts v2.heap.size v4 ga P ∧ Below w.heap.size w v4) := HW.out
                  clear hlt HAl HW HR
                  go_upto_region 19 with fail
                  obtain ⟨q, hq⟩ : ∃ q : Nat, q = P.length := ⟨_, rfl⟩
                  have HL : Hid (q = P.length ∧ (q : Int) = prod S ∧ (prod (pkS (bya bs))).toNat = q) := by
                    have hp := prod_nonneg (errOf_zero.1 HN.out.2.2.2).2.1
                    have h1 : P.length = (prod S).toNat := by rw [HS.out.2, HS.out.1, plL_length]
                    have h2 : (prod (pkS (bya bs))).toNat = q := by rw [← HS.out.1, hq, h1]
                    exact ⟨hq, by rw [hq, h1]; omega, h2⟩
                  have hq4 : q ≤ 4096 := by have := (errOf_zero.1 HN.out.2.2.2).2.2; have := HL.out.2.1; omega
                  have hS6 : S.length ≤ 6 := (errOf_zero.1 HN.out.2.2.2).1
                  obtain ⟨Wl, hWl⟩ : ∃ Wl, Wl = cyc dz' q (fillE c) := ⟨_, rfl⟩
                  have HWl : Hid (Wl = putW q sz' dz' ∧ Wl.length = q) := ⟨by rw [hWl, ← HL.out.2.2]; exact cyc_put HE.out, by rw [hWl, cyc_length]⟩
                  obtain ⟨V, hV⟩ : ∃ V, V = ptV sz dz (bya bs) sz' dz' := ⟨_, rfl⟩
                  have HV : Hid (V = ptV sz dz (bya bs) sz' dz' ∧ V.length = dz.length) := ⟨hV, by rw [hV, ptV_length]⟩
                  have HVn : Hid (∀ k, k < dz.length → nth V k = lstV (nth P) Wl (k : Int) (nth dz k) q) := fun k hk => by
                    rw [hV, ptV_nth _ _ _ _ _ hk, HL.out.2.2, HWl.out.1]
                    refine (lstV_congr _ _ _ _ _ q fun i hi => ?_).symm
                    rw [HS.out.2, plL_nth _ _ (by rw [HL.out.2.2]; exact hi)]
                  have hVl : V.length ≤ dz.length ∧ dz.length ≤ V.length := by have := HV.out.2; omega
                  have hd4 : dz.length ≤ 4096 := HF.out.2.2.1
                  have hz6 : sz.length ≤ 6 := HF.out.2.1
                  have q0 := HW4.out.2.1.c0
                  have q1 := HW4.out.2.1.c1
                  have q2 := HW4.out.2.1.c2
                  clear hV
                  go_wp2_with fail
                  refine (shaped_any g gc S q c sa' sc' sz' da' dc' dz' hS6 hq4 h2' v4 HW4.out.2.2.2.1.1.ints ((HI.out.2.2.2.1.below HW4.out.2.2.2.2.2).mono HW4.out.2.2.2.2.2.size) HN.out.2.2.2 HL.out.2.1).mono ?_
                  rintro e v5 ⟨xa, xc, ya, yc, rfl, hXa, hYa, hB5⟩
                  rw [← hWl] at hYa ⊢
                  obtain ⟨B2, hB2⟩ : ∃ B2, B2 = v5.heap.size := ⟨_, rfl⟩
                  obtain ⟨v6, hv6⟩ : ∃ v6, v6 = v5.alloc (.cells #[.bool c, .slice xa S.length xc, .slice ya Wl.length yc] 24) := ⟨_, rfl⟩
                  have HV6 : Hid (v6 = v5.alloc (.cells #[.bool c, .slice xa S.length xc, .slice ya Wl.length yc] 24) ∧ B2 = v5.heap.size) := ⟨hv6, hB2⟩
                  have HW6 : Hid (Abx v6 w.heap.size (.bool c) (.slice sa sz.length sc) (.slice da dz.length dc) ∧ Abx v6 (w.heap.size + 1 + 1) (.bool false) (.slice none 0 0) (.slice none 0 0) ∧ Abx v6 B2 (.bool c) (.slice xa S.length xc) (.slice ya Wl.length yc) ∧ IsInts v6.heap.size v6 ya Wl ∧ IsInts v6.heap.size v6 ga P ∧ Below w.heap.size w v6) := by
                    rw [hv6, hB2]
                    exact ⟨(HW4.out.1.go hB5).al _, (HW4.out.2.2.1.go hB5).al _, Abx.new v5 _ _ _, (hYa.al _).ints, ((HW4.out.2.2.2.2.1.go hB5).al _).ints, (HW4.out.2.2.2.2.2.trans (hB5.mono HW4.out.2.2.2.2.2.size)).alloc (by have := HW4.out.2.2.2.2.2.size; have := hB5.size; omega) _⟩
                  have h26 : w.heap.size + 1 + 1 < v6.heap.size := HW6.out.2.1.lt
                  have p0 := HW6.out.1.c0
                  have p1 := HW6.out.1.c1
                  clear hWl hq hXa hYa hB5 q0 q1 q2 hv6 hB2
                  go_upto_region 20 with fail
                  rw [← HV6.out.2, ← HV6.out.1]
                  go_cut [13] (fun s13 wc => ∃ B h hc, s13 = .pointer (some ⟨B, 0, none⟩) ∧ Out7 v6 B c h hc sz.length sz wc)
                  case first =>
                    have hbW : Hid (Below v6.heap.size v6 v6.drew) := (Below.refl _ v6).drew
                    refine anyT_begin 7 (fun w' => w'.cell? ⟨w.heap.size, 0, none⟩ = some (.bool c) ∧ w'.cell? ⟨w.heap.size, 1, none⟩ = some (.slice sa sz.length sc)) 8 #[false, false, false, false, false, false, false, false] (by kernel_rfl) rfl rfl ?_
                    refine anyT_put 0 76 ?rv50 #[true, false, false, false, false, false, false, false] rfl rfl rfl (by kernel_rfl) (by kernel_rfl) (by kernel_rfl) (fun _ _ _ h => h) (by decide) ?ry50 (fun _ => ⟨p0, p1⟩) ?rm50
                    case ry50 => first | exact Or.inl ⟨by rfl, by intro w'; go_simp; first | done | rfl⟩
                    case rm50 =>
                    simp only [Act.put, List.setIfInBounds_toArray, List.set_cons_zero, List.set_cons_succ]
                    refine anyT_take 1 77 ?rv51 #[true, true, false, false, false, false, false, false] rfl rfl rfl (by kernel_rfl) (by kernel_rfl) (by kernel_rfl) (fun _ _ _ h => h) (by kernel_rfl) (by decide) (by kernel_rfl) ?ry51 (⟨p0, p1⟩) ?rm51
                    case ry51 => first | exact Or.inl ⟨by rfl, by intro w' hw'; (try dsimp only at hw'); go_simp; first | done | rfl⟩
                    case rm51 =>
                    simp only [Act.put, List.setIfInBounds_toArray, List.set_cons_zero, List.set_cons_succ]
                    refine anyT_put 2 78 ?rv52 #[true, true, true, false, false, false, false, false] rfl rfl rfl (by kernel_rfl) (by kernel_rfl) (by kernel_rfl) (fun _ _ _ h => h) (by decide) ?ry52 (fun _ => ⟨p0, p1⟩) ?rm52
                    case ry52 => first | exact Or.inl ⟨by rfl, by intro w'; go_simp; first | done | rfl⟩
                    case rm52 =>
                    simp only [Act.put, List.setIfInBounds_toArray, List.set_cons_zero, List.set_cons_succ]
                    refine anyT_take 3 79 ?rv53 #[true, true, true, true, false, false, false, false] rfl rfl rfl (by kernel_rfl) (by kernel_rfl) (by kernel_rfl) (fun _ _ _ h => h) (by kernel_rfl) (by decide) (by kernel_rfl) ?ry53 (⟨p0, p1⟩) ?rm53
                    case ry53 => first | exact Or.inl ⟨by rfl, by intro w' hw'; (try dsimp only at hw'); go_simp; first | done | rfl⟩
                    case rm53 =>
                    simp only [Act.put, List.setIfInBounds_toArray, List.set_cons_zero, List.set_cons_succ]
                    refine anyT_br2 4 6 #[true, true, true, true, true, false, false, false] #[true, true, true, true, false, false, true, false] (by kernel_rfl) rfl rfl rfl rfl (fun K hK => ?ba54) (fun K hK => ?bb54)
                    case ba54 =>
                      go_simp
                      go_wp2_with (go_at_call 18; refine (copied_any sa sc sz (by omega) (v6.drew) ((HI.out.1.below (HW6.out.2.2.2.2.2.trans (hbW.out.mono HW6.out.2.2.2.2.2.size))).mono (Nat.le_trans HW6.out.2.2.2.2.2.size hbW.out.size))).mono ?_; rintro e w2 ⟨h, hc, rfl, hG, hBc⟩)
                      have hbWa : Hid (Below v6.heap.size v6 w2) := hbW.out.trans (hBc.mono hbW.out.size)
                      have pc := HW6.out.1.go hbWa.out
                      try (have rB : Abx w2 v6.heap.size (.bool false) (.slice none 0 0) (.slice none 0 0) := RB.out.go hBc)
                      try (have r0 := rB.c0)
                      try (have r1 := rB.c1)
                      try (have r2 := rB.c2)
                      try (have f0 := rB.fr 0)
                      try (have f1 := rB.fr 1)
                      try (have f2 := rB.fr 2)
                      refine hK.out _ _ (fun _ => ⟨pc.c0, pc.c1⟩) ?_
                      clear hK K
                      refine anyT_put 5 81 ?rv55 #[true, true, true, true, true, true, false, false] rfl rfl rfl (by kernel_rfl) (by kernel_rfl) (by kernel_rfl) (fun _ _ _ h => h) (by decide) ?ry55 (fun _ => ⟨pc.c0, pc.c1⟩) ?rm55
                      case ry55 => first | exact Or.inl ⟨by rfl, by intro w'; go_simp; first | done | rfl⟩
                      case rm55 =>
                      simp only [Act.put, List.setIfInBounds_toArray, List.set_cons_zero, List.set_cons_succ]
                      refine anyT_one 6 #[true, true, true, true, true, true, true, false] (by kernel_rfl) rfl rfl (fun K hK => ?_)
                      go_simp
                      have hbWab : Hid (Below v6.heap.size v6 (w2.alloc (.cells #[.bool false, .slice none 0 0, .slice none 0 0] 24))) := hbWa.out.alloc hbWa.out.size _
                      have pda := HW6.out.1.go hbWab.out
                      have RB : Hid (Abx (w2.alloc (.cells #[.bool false, .slice none 0 0, .slice none 0 0] 24)) w2.heap.size (.bool false) (.slice none 0 0) (.slice none 0 0)) := Abx.new _ _ _ _
                      refine hK.out _ _ (fun _ => ⟨pda.c0, pda.c1⟩) ?_
                      clear hK K
                      refine anyT_one 7 #[true, true, true, true, true, true, true, true] (by kernel_rfl) rfl rfl (fun K hK => ?_)
                      go_simp
                      refine hK.out _ _ (fun h => absurd h (by decide)) ?_
                      clear hK K
                      refine anyT_done (by kernel_rfl) ?_
                      go_wp2_with fail
                      go_meet
                      first | exact ⟨_, h, hc, rfl, out7_a hG hbWa.out⟩ | exact ⟨_, h, hc, rfl, out7_b (by have h := hG; rw [World.size_alloc] at h; exact h) rB hbWba.out⟩
                    case bb54 =>
                      go_simp
                      have hbWb : Hid (Below v6.heap.size v6 ((v6.drew).alloc (.cells #[.bool false, .slice none 0 0, .slice none 0 0] 24))) := hbW.out.alloc hbW.out.size _
                      have pd := HW6.out.1.go hbWb.out
                      have RB : Hid (Abx ((v6.drew).alloc (.cells #[.bool false, .slice none 0 0, .slice none 0 0] 24)) (v6.drew).heap.size (.bool false) (.slice none 0 0) (.slice none 0 0)) := Abx.new _ _ _ _
                      refine hK.out _ _ (fun _ => ⟨pd.c0, pd.c1⟩) ?_
                      clear hK K
                      refine anyT_one 4 #[true, true, true, true, true, false, true, false] (by kernel_rfl) rfl rfl (fun K hK => ?_)
                      go_simp
                      go_wp2_with (go_at_call 18; refine (copied_any sa sc sz (by omega) ((v6.drew).alloc (.cells #[.bool false, .slice none 0 0, .slice none 0 0] 24)) ((HI.out.1.below (HW6.out.2.2.2.2.2.trans (hbWb.out.mono HW6.out.2.2.2.2.2.size))).mono (Nat.le_trans HW6.out.2.2.2.2.2.size hbWb.out.size))).mono ?_; rintro e w2 ⟨h, hc, rfl, hG, hBc⟩)
                      have hbWba : Hid (Below v6.heap.size v6 w2) := hbWb.out.trans (hBc.mono hbWb.out.size)
                      have pcb := HW6.out.1.go hbWba.out
                      try (have rB : Abx w2 v6.heap.size (.bool false) (.slice none 0 0) (.slice none 0 0) := RB.out.go hBc)
                      try (have r0 := rB.c0)
                      try (have r1 := rB.c1)
                      try (have r2 := rB.c2)
                      try (have f0 := rB.fr 0)
                      try (have f1 := rB.fr 1)
                      try (have f2 := rB.fr 2)
                      refine hK.out _ _ (fun _ => ⟨pcb.c0, pcb.c1⟩) ?_
                      clear hK K
                      refine anyT_put 5 81 ?rv59 #[true, true, true, true, true, true, true, false] rfl rfl rfl (by kernel_rfl) (by kernel_rfl) (by kernel_rfl) (fun _ _ _ h => h) (by decide) ?ry59 (fun _ => ⟨pcb.c0, pcb.c1⟩) ?rm59
                      case ry59 => first | exact Or.inl ⟨by rfl, by intro w'; go_simp; first | done | rfl⟩
                      case rm59 =>
                      simp only [Act.put, List.setIfInBounds_toArray, List.set_cons_zero, List.set_cons_succ]
                      refine anyT_one 7 #[true, true, true, true, true, true, true, true] (by kernel_rfl) rfl rfl (fun K hK => ?_)
                      go_simp
                      refine hK.out _ _ (fun h => absurd h (by decide)) ?_
                      clear hK K
                      refine anyT_done (by kernel_rfl) ?_
                      go_wp2_with fail
                      go_meet
                      first | exact ⟨_, h, hc, rfl, out7_a hG hbWa.out⟩ | exact ⟨_, h, hc, rfl, out7_b (by have h := hG; rw [World.size_alloc] at h; exact h) rB hbWba.out⟩
                  case rest =>
                    obtain ⟨B, h, hc, rfl, hO⟩ := hcut
                    obtain ⟨v7, hv7⟩ : ∃ v7, v7 = wc := ⟨_, rfl⟩
                    subst hv7
                    have HO : Hid (Abx v7 B (.bool c) (.slice h sz.length hc) (.slice none 0 0) ∧ SepInts v6.heap.size v7.heap.size B v7 h sz ∧ Below v6.heap.size v6 v7) := ⟨hO.2.1, hO.2.2.1, hO.2.2.2⟩
                    have hBl : v6.heap.size ≤ B := hO.1
                    have hB7 : B < v7.heap.size := hO.2.1.lt
                    have h67 : v6.heap.size ≤ v7.heap.size := hO.2.2.2.size
                    clear hO p0 p1
                    go_wp2_with fail
                    go_loopw [14] (fun i wx => ∃ (k : Nat) (v : Value), k ≤ dz.length ∧ i = .int .i64 k ∧ Abx wx B (.bool c) (.slice h sz.length hc) v ∧ wx.ownsRow v7.heap.size 3 1 v (V.take k).length ((V.take k).map (Value.int .i64)) ∧ SepInts v6.heap.size v7.heap.size B wx h sz ∧ v7.heap.size ≤ wx.heap.size ∧ Below v6.heap.size v6 wx) (fun i _ => dz.length - (intOf i).toNat)
                    case atStart => exact ⟨0, .slice none 0 0, Nat.zero_le _, rfl, HO.out.1, World.ownsRow_nil _ _ _ _, HO.out.2.1, Nat.le_refl _, HO.out.2.2⟩
                    case round =>
                      obtain ⟨k, v, hk, rfl, hU, hown, hSp, hsx, hBx⟩ := hrel
                      have HBw : Hid (Below w.heap.size w wr) := HW6.out.2.2.2.2.2.trans (hBx.mono HW6.out.2.2.2.2.2.size)
                      have HP6 : Hid (Abx wr w.heap.size (.bool c) (.slice sa sz.length sc) (.slice da dz.length dc) ∧ Abx wr (w.heap.size + 1 + 1) (.bool false) (.slice none 0 0) (.slice none 0 0) ∧ Abx wr B2 (.bool c) (.slice xa S.length xc) (.slice ya Wl.length yc) ∧ IsInts v6.heap.size wr ya Wl ∧ IsInts v6.heap.size wr ga P) := ⟨HW6.out.1.go hBx, HW6.out.2.1.go hBx, HW6.out.2.2.1.go hBx, HW6.out.2.2.2.1.below hBx, HW6.out.2.2.2.2.1.below hBx⟩
                      have HQ : Hid (Abx wr B (.bool c) (.slice h sz.length hc) v ∧ wr.ownsRow v7.heap.size 3 1 v (V.take k).length ((V.take k).map (Value.int .i64)) ∧ SepInts v6.heap.size v7.heap.size B wr h sz ∧ Below v6.heap.size v6 wr) := ⟨hU, hown, hSp, hBx⟩
                      have p2 := HP6.out.1.c2
                      by_cases hlt : k < dz.length
                      · obtain ⟨bd, od, rfl, hbd, hcD⟩ := (HI.out.2.1.below HBw.out).at hlt
                        have cd := hcD k hlt
                        obtain ⟨u, hu⟩ : ∃ u, u = wr := ⟨_, rfl⟩
                        subst hu
                        clear hU hown hSp hBx hcD
                        go_wp2_with fail
                        go_loopw [16, 15] (fun i x wx => ∃ m : Nat, m ≤ q ∧ i = .int .i64 m ∧ x = .int .i64 (lstV (nth P) Wl (k : Int) (nth dz k) m) ∧ wx = u) (fun i _ _ => q - (intOf i).toNat)
                        case atStart => exact ⟨0, Nat.zero_le _, rfl, rfl, rfl⟩
                        case round =>
                          obtain ⟨m, hm, rfl, rfl, hwx⟩ := hrel
                          obtain rfl := hwx.symm
                          by_cases hml : m < q
                          · obtain ⟨bp, op, rfl, hbp, hcP⟩ := HP6.out.2.2.2.2.at (q := m) (by rw [← HL.out.1]; exact hml)
                            have cp := hcP m (by rw [← HL.out.1]; exact hml)
                            have HSt : Hid (lstV (nth P) Wl (k : Int) (nth dz k) (m + 1) = if nth P m = (k : Int) then nth Wl m else lstV (nth P) Wl (k : Int) (nth dz k) m) := rfl
                            obtain ⟨y0, hy0⟩ : ∃ y0, y0 = nth P m := ⟨_, rfl⟩
                            rw [← hy0] at cp HSt
                            clear hcP hy0
                            have hqP : m < P.length := by rw [← HL.out.1]; exact hml
                            by_cases hy : y0 = (k : Int)
                            · have ty : (y0 == (k : Int)) = true := by simp [hy]
                              have HN1 : Hid (lstV (nth P) Wl (k : Int) (nth dz k) (m + 1) = nth Wl m) := by show _ = _; rw [HSt.out, if_pos hy]
                              obtain ⟨by1, oy, rfl, hby, hcY⟩ := HP6.out.2.2.2.1.at (q := m) (by rw [HWl.out.2]; exact hml)
                              have cy := hcY m (by rw [HWl.out.2]; exact hml)
                              have o2 := HP6.out.2.2.1.c2
                              have hmW : m < Wl.length := by rw [HWl.out.2]; exact hml
                              clear hcY hy HSt
                              go_wp2_with fail
                              exact ⟨⟨m + 1, by omega, by go_num, int_eq HN1.out.symm, by first | rfl | trivial⟩, by simp [intOf]; omega⟩
                            · have ty : (y0 == (k : Int)) = false := by simpa using hy
                              have HN1 : Hid (lstV (nth P) Wl (k : Int) (nth dz k) (m + 1) = lstV (nth P) Wl (k : Int) (nth dz k) m) := by show _ = _; rw [HSt.out, if_neg hy]
                              clear hy HSt
                              go_wp2_with fail
                              exact ⟨⟨m + 1, by omega, by go_num, int_eq HN1.out.symm, by first | rfl | trivial⟩, by simp [intOf]; omega⟩
                          · obtain rfl : m = q := by omega
                            have HX : Hid (lstV (nth P) Wl (k : Int) (nth dz k) m = nth V k) := (HVn.out k hlt).symm
                            rw [HX.out]
                            have hqP : ¬ m < P.length := by rw [← HL.out.1]; omega
                            obtain ⟨y0, hy0⟩ : ∃ y0, y0 = nth V k := ⟨_, rfl⟩
                            rw [← hy0]
                            have HY0 : Hid (y0 = nth V k) := hy0
                            have hown := HQ.out.2.1
                            have o2 := HQ.out.1.c2
                            have hkV : k ≤ V.length := by omega
                            have hwu : w.heap.size ≤ u.heap.size := HBw.out.size
                            clear hy0 hml p2 cd
                            go_wp2_with (at_builtin; refine app_list rfl _ _ rfl _ v7.heap.size u.heap.size v (V.take k) y0 rfl rfl (hown.alloc _) (heap_alloc_new u _) (by rw [take_lenR _ hkV]; omega) (by simp; omega) ?_; intro g1 gc1 w4 hown1 hB4; have HO1 := (HQ.out.1.al (.cells #[.int .i64 y0] 3)).bel hB4 (by omega); have x2 := HO1.c2; have xf := HO1.fr 2)
                            rw [HY0.out, ← take_snoc V k (by omega), take_lenR V hkV] at hown1
                            have hz4 := hB4.size
                            simp at hz4
                            refine ⟨⟨k + 1, _, by omega, by go_num, HO1.s2 _, ?_, ?_, by simp [World.setCell]; omega, ?_⟩, by simp [intOf]; omega⟩
                            · rw [take_lenR V (show k + 1 ≤ V.length by omega)]
                              have hmin : min k V.length = k := by omega
                              first
                                | exact ownsRow_setCell_below hown1 (by show B < v7.heap.size; omega) _
                                | (rw [hmin]; exact ownsRow_setCell_below hown1 (by show B < v7.heap.size; omega) _)
                            · exact ((HQ.out.2.2.1.al (by omega) _).bel hB4).set 2 _
                            · exact ((HQ.out.2.2.2.alloc HQ.out.2.2.2.size _).trans (hB4.mono (by omega))).setCell (p := ⟨B, 2, none⟩) hBl _
                      · obtain rfl : k = dz.length := by omega
                        rw [List.take_of_length_le (by omega)] at hown
                        obtain ⟨g1, gc1, rfl, hN1⟩ := owns_new hown
                        have o0 := hU.c0
                        have o1 := hU.c1
                        have o2 := hU.c2
                        have r_0 := HP6.out.2.1.c0
                        have r_1 := HP6.out.2.1.c1
                        have r_2 := HP6.out.2.1.c2
                        have f_0 := HP6.out.2.1.fr 0
                        have f_1 := HP6.out.2.1.fr 1
                        have f_2 := HP6.out.2.1.fr 2
                        clear hown hlt
                        go_wp2_with fail
                        have FF := HP6.out.2.1.set3 (.bool c) (.slice h sz.length hc) (.slice g1 V.length gc1)
                        have q0' := FF.c0
                        have q1' := FF.c1
                        have q2' := FF.c2
                        refine bodyPost_ret (v := .tuple #[.agg #[.bool c, .slice h sz.length hc, .slice g1 V.length gc1], .int .i64 0]) (by simp [results, Tryd.results8, go_sem, q0', q1', q2']) rfl ?_
                        have hX := ((hSp.new hsx).set3 (b := w.heap.size + 1 + 1) (by omega) (.bool c) (.slice h sz.length hc) (.slice g1 V.length gc1)).low (lo' := w.heap.size) (by omega)
                        have hY := (hN1.set3 (b := w.heap.size + 1 + 1) (by omega) (.bool c) (.slice h sz.length hc) (.slice g1 V.length gc1)).low (lo' := w.heap.size) (by omega)
                        have hZ := bel_set3 HBw.out (b := w.heap.size + 1 + 1) (by omega) (.bool c) (.slice h sz.length hc) (.slice g1 V.length gc1)
                        have hUR := UR.ok (c := c) (xc := hc) (yc := gc1) HE.out hX hY hZ
                        have hE1 := HV.out.1
                        rw [← hE1]
                        exact hUR
            · have tl : ((sz'.length : Int) != (S.length : Int)) = true := by simp; omega
              have HE : Hid ((ptE c sz dz (bya bs) c sz' dz') = 3) := by show _ = _; rw [HR.out, if_neg (by simp), if_neg h0, if_pos (by rw [← HS.out.1]; exact hlr)]
              clear h0 hlr
              have r_0 := HP3.out.2.2.1.c0
              have r_1 := HP3.out.2.2.1.c1
              have r_2 := HP3.out.2.2.1.c2
              have f_0 := HP3.out.2.2.1.fr 0
              have f_1 := HP3.out.2.2.1.fr 1
              have f_2 := HP3.out.2.2.1.fr 2
              go_wp2_with fail
              have FF := HP3.out.2.2.1.set3 (.bool false) (.slice none 0 0) (.slice none 0 0)
              have q0 := FF.c0
              have q1 := FF.c1
              have q2 := FF.c2
              exact bodyPost_ret (v := .tuple #[.agg #[.bool false, .slice none 0 0, .slice none 0 0], .int .i64 3]) (by simp [results, Tryd.results8, go_sem, q0, q1, q2]) rfl (UR.no HE.out (by decide) (bel_set3 HP3.out.2.2.2 (by omega) _ _ _))
        · have tc : (c != c') = true := by simpa using hcc
          have tc2 : (c == c') = false := by simpa using hcc
          have HE : Hid ((ptE c sz dz (bya bs) c' sz' dz') = 6) := by show _ = _; rw [HR.out, if_pos hcc]
          clear hcc
          have r_0 := HP3.out.2.2.1.c0
          have r_1 := HP3.out.2.2.1.c1
          have r_2 := HP3.out.2.2.1.c2
          have f_0 := HP3.out.2.2.1.fr 0
          have f_1 := HP3.out.2.2.1.fr 1
          have f_2 := HP3.out.2.2.1.fr 2
          go_wp2_with fail
          have FF := HP3.out.2.2.1.set3 (.bool false) (.slice none 0 0) (.slice none 0 0)
          have q0 := FF.c0
          have q1 := FF.c1
          have q2 := FF.c2
          exact bodyPost_ret (v := .tuple #[.agg #[.bool false, .slice none 0 0, .slice none 0 0], .int .i64 6]) (by simp [results, Tryd.results8, go_sem, q0, q1, q2]) rfl (UR.no HE.out (by decide) (bel_set3 HP3.out.2.2.2 (by omega) _ _ _))
      · have t0 : (nmE sz (bya bs) != 0) = true := by simpa using hn
        have HE : Hid ((ptE c sz dz (bya bs) c' sz' dz') = nmE sz (bya bs)) := pt_nm HF.out.1 HF.out.2.2.2.1 hn
        have HA : Hid (nmE sz (bya bs) ≠ 0) := hn
        clear hn
        have r_0 := HP3.out.2.2.1.c0
        have r_1 := HP3.out.2.2.1.c1
        have r_2 := HP3.out.2.2.1.c2
        have f_0 := HP3.out.2.2.1.fr 0
        have f_1 := HP3.out.2.2.1.fr 1
        have f_2 := HP3.out.2.2.1.fr 2
        go_wp2_with fail
        have FF := HP3.out.2.2.1.set3 (.bool false) (.slice none 0 0) (.slice none 0 0)
        have q0 := FF.c0
        have q1 := FF.c1
        have q2 := FF.c2
        exact bodyPost_ret (v := .tuple #[.agg #[.bool false, .slice none 0 0, .slice none 0 0], .int .i64 (nmE sz (bya bs))]) (by simp [results, Tryd.results8, go_sem, q0, q1, q2]) rfl (UR.no HE.out HA.out (bel_set3 HP3.out.2.2.2 (by omega) _ _ _))
    · have t0 : (flawE c' sz' dz' != 0) = true := by simpa using hv
      have HE : Hid ((ptE c sz dz (bya bs) c' sz' dz') = flawE c' sz' dz') := pt_v HF0.out hv
      have HA : Hid (flawE c' sz' dz' ≠ 0) := hv
      clear hv
      have r_0 := HP2.out.2.2.1.c0
      have r_1 := HP2.out.2.2.1.c1
      have r_2 := HP2.out.2.2.1.c2
      have f_0 := HP2.out.2.2.1.fr 0
      have f_1 := HP2.out.2.2.1.fr 1
      have f_2 := HP2.out.2.2.1.fr 2
      go_wp2_with fail
      have FF := HP2.out.2.2.1.set3 (.bool false) (.slice none 0 0) (.slice none 0 0)
      have q0 := FF.c0
      have q1 := FF.c1
      have q2 := FF.c2
      exact bodyPost_ret (v := .tuple #[.agg #[.bool false, .slice none 0 0, .slice none 0 0], .int .i64 (flawE c' sz' dz')]) (by simp [results, Tryd.results8, go_sem, q0, q1, q2]) rfl (UR.no HE.out HA.out (bel_set3 HP2.out.2.2.2 (by omega) _ _ _))
  · have t0 : (alE c sz dz (bya bs) != 0) = true := by simpa using he
    have t1 : (alE c sz dz (bya bs) == 0) = false := by simpa using he
    have HE : Hid ((ptE c sz dz (bya bs) c' sz' dz') = alE c sz dz (bya bs)) := pt_al he
    have HA : Hid (alE c sz dz (bya bs) ≠ 0) := he
    clear he
    have r_0 := HP.out.2.2.1.c0
    have r_1 := HP.out.2.2.1.c1
    have r_2 := HP.out.2.2.1.c2
    have f_0 := HP.out.2.2.1.fr 0
    have f_1 := HP.out.2.2.1.fr 1
    have f_2 := HP.out.2.2.1.fr 2
    go_wp2_with fail
    have FF := HP.out.2.2.1.set3 (.bool false) (.slice none 0 0) (.slice none 0 0)
    have q0 := FF.c0
    have q1 := FF.c1
    have q2 := FF.c2
    exact bodyPost_ret (v := .tuple #[.agg #[.bool false, .slice none 0 0, .slice none 0 0], .int .i64 (alE c sz dz (bya bs))]) (by simp [results, Tryd.results8, go_sem, q0, q1, q2]) rfl (UR.no HE.out HA.out (bel_set3 HP.out.2.2.2 (by omega) _ _ _))
end Go.Proofs.YtlflacoiidhgoaaDoor
