/-
  What package pick's Put tells.
-/
import Derived.Test.YtlflacoiidhgoaaPpk
import Derived.Test.YtlflacoiidhgoaaPikq
import Derived.Test.YtlflacoiidhgoaaPtm
import Derived.Deep.RegionWith
import Derived.Deep.QuietTactic
import Derived.BigQuiet
import Derived.WalkSmall
namespace Go.Proofs.Ytlflacoiidhgoaa
open Go.RowKit
set_option linter.unusedVariables false

set_option maxRecDepth 100000 in
set_option maxHeartbeats 8000000 in
theorem pt_holds : CPt := by
  intro c sa sc sz da dc dz ba bc bs c' sa' sc' sz' da' dc' dz' w h1 h2 h3 h1' h2' hs hd hb hs' hd'
  unfold ptS7 ptD7
  have HI : Hid (IsInts w.heap.size w sa sz ∧ IsInts w.heap.size w da dz ∧ IsAs w.heap.size w ba bs ∧ IsInts w.heap.size w sa' sz' ∧ IsInts w.heap.size w da' dz') := ⟨hs, hd, hb, hs', hd'⟩
  clear hs hd hb hs' hd'
  have HB0 : Hid (Below w.heap.size w (((w.alloc (.cells #[.bool c, .slice sa sz.length sc, .slice da dz.length dc] 24)).alloc (.cells #[.bool c', .slice sa' sz'.length sc', .slice da' dz'.length dc'] 24)).alloc (.cells #[.bool false, .slice none 0 0, .slice none 0 0] 24))) := (((Below.refl _ w).alloc (Nat.le_refl _) _).alloc (by simp) _).alloc (by simp; omega) _
  have HP0 : Hid (Abx (((w.alloc (.cells #[.bool c, .slice sa sz.length sc, .slice da dz.length dc] 24)).alloc (.cells #[.bool c', .slice sa' sz'.length sc', .slice da' dz'.length dc'] 24)).alloc (.cells #[.bool false, .slice none 0 0, .slice none 0 0] 24)) w.heap.size (.bool c) (.slice sa sz.length sc) (.slice da dz.length dc)) := ((Abx.new w (.bool c) (.slice sa sz.length sc) (.slice da dz.length dc)).al _).al _
  have HQ0 : Hid (Abx (((w.alloc (.cells #[.bool c, .slice sa sz.length sc, .slice da dz.length dc] 24)).alloc (.cells #[.bool c', .slice sa' sz'.length sc', .slice da' dz'.length dc'] 24)).alloc (.cells #[.bool false, .slice none 0 0, .slice none 0 0] 24)) (w.heap.size + 1) (.bool c') (.slice sa' sz'.length sc') (.slice da' dz'.length dc')) := (Abx.new1 w (.cells #[.bool c, .slice sa sz.length sc, .slice da dz.length dc] 24) (.bool c') (.slice sa' sz'.length sc') (.slice da' dz'.length dc')).al _
  have HR0 : Hid (Abx (((w.alloc (.cells #[.bool c, .slice sa sz.length sc, .slice da dz.length dc] 24)).alloc (.cells #[.bool c', .slice sa' sz'.length sc', .slice da' dz'.length dc'] 24)).alloc (.cells #[.bool false, .slice none 0 0, .slice none 0 0] 24)) (w.heap.size + 1 + 1) (.bool false) (.slice none 0 0) (.slice none 0 0)) := by
    have h := Abx.new ((w.alloc (.cells #[.bool c, .slice sa sz.length sc, .slice da dz.length dc] 24)).alloc (.cells #[.bool c', .slice sa' sz'.length sc', .slice da' dz'.length dc'] 24)) (.bool false) (.slice none 0 0) (.slice none 0 0)
    simp only [World.size_alloc] at h
    exact h
  have p0 := HP0.out.c0
  have p1 := HP0.out.c1
  have p2 := HP0.out.c2
  have hp := chkall_any c sa sc sz da dc dz ba bc bs h1 h2 h3 (((w.alloc (.cells #[.bool c, .slice sa sz.length sc, .slice da dz.length dc] 24)).alloc (.cells #[.bool c', .slice sa' sz'.length sc', .slice da' dz'.length dc'] 24)).alloc (.cells #[.bool false, .slice none 0 0, .slice none 0 0] 24)) ((HI.out.1.below HB0.out).mono HB0.out.size) ((HI.out.2.1.below HB0.out).mono HB0.out.size) ((HI.out.2.2.1.below HB0.out).mono HB0.out.size)
  by_cases ha : alE c sz dz (bya bs) = 0
  · have HA : Hid (alE c sz dz (bya bs) = 0) := ha
    have HF : Hid (flawE c sz dz = 0 ∧ flL (bya bs) = 0) := alE_zero ha
    have er0 : errV 0 = .nilIface := rfl
    rw [ha, er0] at hp
    clear ha er0
    go_enter Try.func7, Try.ntmps7
    go_wp2_with fail
    refine hp.mono ?_
    clear hp
    rintro e v1 ⟨rfl, hC⟩
    have HB1 : Hid (Below w.heap.size w v1) := HB0.out.trans (hC.mono HB0.out.size)
    have HP1 : Hid (Abx v1 w.heap.size (.bool c) (.slice sa sz.length sc) (.slice da dz.length dc)) := HP0.out.go hC
    have HQ1 : Hid (Abx v1 (w.heap.size + 1) (.bool c') (.slice sa' sz'.length sc') (.slice da' dz'.length dc')) := HQ0.out.go hC
    have HR1 : Hid (Abx v1 (w.heap.size + 1 + 1) (.bool false) (.slice none 0 0) (.slice none 0 0)) := HR0.out.go hC
    have hR1 : w.heap.size + 1 + 1 < v1.heap.size := HR1.out.lt
    clear hC p0 p1 p2 HB0 HP0 HQ0 HR0
    have q0 := HQ1.out.c0
    have q1 := HQ1.out.c1
    have q2 := HQ1.out.c2
    go_wp2_with fail
    by_cases hv : flawE c' sz' dz' = 0
    · have HV : Hid (flawE c' sz' dz' = 0) := hv
      clear hv
      refine (check_ok c' sa' sc' sz' da' dc' dz' h1' h2' v1 ((HI.out.2.2.2.1.below HB1.out).mono HB1.out.size) ((HI.out.2.2.2.2.below HB1.out).mono HB1.out.size) HV.out).mono ?_
      rintro e v2 ⟨rfl, hC⟩
      have HB2 : Hid (Below w.heap.size w v2) := HB1.out.trans (hC.mono HB1.out.size)
      have HP2 : Hid (Abx v2 w.heap.size (.bool c) (.slice sa sz.length sc) (.slice da dz.length dc)) := HP1.out.go hC
      have HQ2 : Hid (Abx v2 (w.heap.size + 1) (.bool c') (.slice sa' sz'.length sc') (.slice da' dz'.length dc')) := HQ1.out.go hC
      have HR2 : Hid (Abx v2 (w.heap.size + 1 + 1) (.bool false) (.slice none 0 0) (.slice none 0 0)) := HR1.out.go hC
      have hR2 : w.heap.size + 1 + 1 < v2.heap.size := HR2.out.lt
      clear hC q0 q1 q2 HB1 HP1 HQ1 HR1
      have a1 := HP2.out.c1
      go_wp2_with fail
      refine (picked_new sa sc sz ba bc bs (flawE_zero HF.out.1).1 h3 HF.out.2 v2 ((HI.out.1.below HB2.out).mono HB2.out.size) ((HI.out.2.2.1.below HB2.out).mono HB2.out.size)).mono ?_
      rintro e v3 ⟨g, gc, ga, gd, rfl, hS, hPl, hB⟩
      have HB3 : Hid (Below w.heap.size w v3) := HB2.out.trans (hB.mono HB2.out.size)
      have HP3 : Hid (Abx v3 w.heap.size (.bool c) (.slice sa sz.length sc) (.slice da dz.length dc)) := HP2.out.go hB
      have HQ3 : Hid (Abx v3 (w.heap.size + 1) (.bool c') (.slice sa' sz'.length sc') (.slice da' dz'.length dc')) := HQ2.out.go hB
      have HR3 : Hid (Abx v3 (w.heap.size + 1 + 1) (.bool false) (.slice none 0 0) (.slice none 0 0)) := HR2.out.go hB
      have hR3 : w.heap.size + 1 + 1 < v3.heap.size := HR3.out.lt
      have hv23 : v2.heap.size ≤ v3.heap.size := hB.size
      clear hB a1 HB2 HP2 HQ2 HR2
      by_cases hn : nmE sz (bya bs) = 0
      · have HE4 : Hid (ptE c sz dz (bya bs) c' sz' dz' = fiE c (pkS (bya bs)) c' sz') := ptE_fi HA.out HV.out hn
        have HPK : Hid (pkE c sz dz (bya bs) = 0) := by show _ = _; rw [pkE_nm HA.out, hn]
        rw [onl_ok hn] at hS hPl
        rw [onl_ok hn, onl_ok hn, hn]
        have er0 : errV 0 = .nilIface := rfl
        rw [er0]
        obtain ⟨S, hS0⟩ : ∃ S, S = pkS (bya bs) := ⟨_, rfl⟩
        obtain ⟨P, hP0⟩ : ∃ P, P = plL sz (bya bs) := ⟨_, rfl⟩
        rw [← hS0, ← hP0]
        rw [← hS0] at hS
        rw [← hP0] at hPl
        have HS : Hid (S = pkS (bya bs)) := hS0
        obtain ⟨q, hq⟩ : ∃ q, q = P.length := ⟨_, rfl⟩
        have HL : Hid (P.length = q ∧ (prod (pkS (bya bs))).toNat = q) := ⟨hq.symm, by rw [hq, hP0, plL_length]⟩
        have hSl : S.length ≤ 6 ∧ q ≤ 4096 := by
          have h := pk_len HPK.out
          rw [← hS0] at h
          refine ⟨h.1, ?_⟩
          have h2 := h.2
          unfold pkD at h2
          rw [TA_length, HL.out.2] at h2
          exact h2
        have hdz4 : dz.length ≤ 4096 := (flawE_short HF.out.1).2
        have hsz6 : sz.length ≤ 6 := (flawE_short HF.out.1).1
        have hdz4' : dz'.length ≤ 4096 := (flawE_short HV.out).2
        have HPb : Hid (∀ k, k < q → nth P k = pkP sz (bya bs) k ∧ 0 ≤ nth P k ∧ nth P k < dz.length) := fun k hk => by
          have hk' : k < (prod (pkS (bya bs))).toNat := by rw [HL.out.2]; exact hk
          have hb := pkP_bd HPK.out hk'
          rw [hP0, plL_nth _ _ hk']
          exact ⟨rfl, hb.1, by rw [(flawE_zero HF.out.1).2.1]; exact hb.2⟩
        rw [← hq]
        have HSP : Hid (NewC v2.heap.size v3 g S gc ∧ NewC v2.heap.size v3 ga P gd) := ⟨hS, hPl⟩
        clear hn hS hPl hS0 hP0 hq er0
        obtain ⟨hSl, hq4⟩ := hSl
        have b0 := HP3.out.c0
        have d0 := HQ3.out.c0
        have d1 := HQ3.out.c1
        have d2 := HQ3.out.c2
        have hfit := fit7_any c g gc S c' sa' sc' sz' da' dc' dz' (by omega) h1' v3 HSP.out.1.ints.1 ((HI.out.2.2.2.1.below HB3.out).mono HB3.out.size)
        by_cases hfi : fiE c S c' sz' = 0
        · have HE : Hid (ptE c sz dz (bya bs) c' sz' dz' = 0) := by show _ = _; rw [HE4.out, ← HS.out, hfi]
          have er0 : errV 0 = .nilIface := rfl
          rw [hfi, er0] at hfit
          clear hfi er0
          go_wp2_with fail
          refine hfit.mono ?_
          clear hfit
          rintro e v4 ⟨rfl, hC⟩
          have HB4 : Hid (Below w.heap.size w v4) := HB3.out.trans (hC.mono HB3.out.size)
          have HP4 : Hid (Abx v4 w.heap.size (.bool c) (.slice sa sz.length sc) (.slice da dz.length dc)) := HP3.out.go hC
          have HQ4 : Hid (Abx v4 (w.heap.size + 1) (.bool c') (.slice sa' sz'.length sc') (.slice da' dz'.length dc')) := HQ3.out.go hC
          have HR4 : Hid (Abx v4 (w.heap.size + 1 + 1) (.bool false) (.slice none 0 0) (.slice none 0 0)) := HR3.out.go hC
          have hR4 : w.heap.size + 1 + 1 < v4.heap.size := HR4.out.lt
          have HSP4 : Hid (NewC v2.heap.size v4 g S gc ∧ NewC v2.heap.size v4 ga P gd) := ⟨HSP.out.1.go hC, HSP.out.2.go hC⟩
          clear hC b0 d0 d1 d2 HB3 HP3 HQ3 HR3 HSP
          have a2 := HP4.out.c2
          have HD4 : Hid (IsInts v4.heap.size v4 da dz) := (HI.out.2.1.below HB4.out).mono HB4.out.size
          go_wp2_with (at_builtin; refine app_copy rfl _ _ rfl v4 da dz dz.length dc rfl rfl rfl HD4.out (by omega) ?_; intro gx gxc v5 hN5 hB5)
          have HB5 : Hid (Below v4.heap.size v4 v5) := hB5
          have HN5 : Hid (NewC v4.heap.size v5 gx dz gxc) := hN5
          clear a2 hN5 hB5
          go_wp2_with fail
          go_loopw [56] (fun i wr => ∃ k : Nat, k ≤ q ∧ i = .int .i64 k ∧ NewC v4.heap.size wr gx (ptK sz dz (bya bs) sz' dz' k) gxc ∧ Below v4.heap.size v4 wr) (fun i _ => q - (intOf i).toNat)
          case atStart => exact ⟨0, Nat.zero_le _, rfl, by rw [ptK_zero]; exact HN5.out, HB5.out⟩
          case round =>
            obtain ⟨k, hk, rfl, hrow, hBu⟩ := hrel
            have hB : Below w.heap.size w wr := HB4.out.trans (hBu.mono HB4.out.size)
            by_cases hlt : k < q
            · obtain ⟨hL0, hL1, hL2⟩ := HPb.out k hlt
              obtain ⟨L, hL⟩ : ∃ L : Nat, nth P k = L := ⟨(nth P k).toNat, by omega⟩
              have hLd : L < dz.length := by omega
              have hkP : k < P.length := by rw [HL.out.1]; exact hlt
              have hkN : k < (prod (pkS (bya bs))).toNat := by rw [HL.out.2]; exact hlt
              obtain ⟨hd0, hdk⟩ := put7_at HE.out hkN
              obtain ⟨m, hm⟩ : ∃ m, m = k % dz'.length := ⟨_, rfl⟩
              have hmd : m < dz'.length := by rw [hm]; exact Nat.mod_lt _ hd0
              rw [← hm] at hdk
              have HNX : Hid ((ptK sz dz (bya bs) sz' dz' k).set L (nth dz' m) = ptK sz dz (bya bs) sz' dz' (k + 1)) := by show _ = _; rw [hdk]; exact ptK_next (by rw [← hL0, hL]) hLd
              have em : (k : Int).tmod (dz'.length : Int) = (m : Int) := by rw [hm]; rfl
              have em2 : (k : Int) % (dz'.length : Int) = (m : Int) := by rw [hm]; rfl
              have ez : ¬ dz'.length = 0 := by omega
              obtain ⟨bp, op, rfl, hbp, hcP⟩ := (HSP4.out.2.go hBu).ints.1.at hkP
              have cp := hcP k hkP
              rw [hL] at cp
              obtain ⟨bd, od, rfl, hbd, hcD⟩ := (HI.out.2.2.2.2.below hB).at hmd
              have cd := hcD m hmd
              have hLk : L < (ptK sz dz (bya bs) sz' dz' k).length := by rw [ptK_length]; exact hLd
              obtain ⟨bx, ox, rfl, hbx, hbx2, cx, fx⟩ := hrow.at7 hLk
              have a2 := (HQ4.out.go hBu).c2
              have HQQ : Hid (NewC v4.heap.size wr (some ⟨bx, ox, none⟩) (ptK sz dz (bya bs) sz' dz' k) gxc ∧ Below v4.heap.size v4 wr) := ⟨hrow, hBu⟩
              clear hrow hBu hB hcP hcD hL0 hL1 hL2 hL hm hdk
              generalize nth (ptK sz dz (bya bs) sz' dz' k) L = X0 at *
              go_wp2_with fail
              refine anyT_begin 11 (fun w' => w'.cell? ⟨w.heap.size + 1, 2, none⟩ = some (.slice (some ⟨bd, od, none⟩) dz'.length dc') ∧ w'.cell? ⟨bd, od + m, none⟩ = some (.int .i64 (nth dz' m))) 13 #[false, false, false, false, false, false, false, false, false, false, false, false, false] (by kernel_rfl) rfl rfl ?_
              refine anyT_put 0 61 ?rv19 #[true, false, false, false, false, false, false, false, false, false, false, false, false] rfl rfl rfl (by kernel_rfl) (by kernel_rfl) (by kernel_rfl) (fun _ _ _ h => h) (by decide) ?ry19 (fun _ => ⟨a2, cd⟩) ?rm19
              case ry19 => first | exact Or.inl ⟨by rfl, by intro w'; go_simp; first | done | rfl⟩
              case rm19 =>
              simp only [Act.put, List.setIfInBounds_toArray, List.set_cons_zero, List.set_cons_succ]
              refine anyT_put 1 62 ?rv20 #[true, true, false, false, false, false, false, false, false, false, false, false, false] rfl rfl rfl (by kernel_rfl) (by kernel_rfl) (by kernel_rfl) (fun _ _ _ h => h) (by decide) ?ry20 (fun _ => ⟨a2, cd⟩) ?rm20
              case ry20 => first | exact Or.inl ⟨by rfl, by intro w'; go_simp; first | done | rfl⟩
              case rm20 =>
              simp only [Act.put, List.setIfInBounds_toArray, List.set_cons_zero, List.set_cons_succ]
              refine anyT_put 2 63 ?rv21 #[true, true, true, false, false, false, false, false, false, false, false, false, false] rfl rfl rfl (by kernel_rfl) (by kernel_rfl) (by kernel_rfl) (fun _ _ _ h => h) (by decide) ?ry21 (fun _ => ⟨a2, cd⟩) ?rm21
              case ry21 => first | exact Or.inl ⟨by rfl, by intro w'; go_simp; first | done | rfl⟩
              case rm21 =>
              simp only [Act.put, List.setIfInBounds_toArray, List.set_cons_zero, List.set_cons_succ]
              refine anyT_take 3 64 ?rv22 #[true, true, true, true, false, false, false, false, false, false, false, false, false] rfl rfl rfl (by kernel_rfl) (by kernel_rfl) (by kernel_rfl) (fun _ _ _ h => h) (by kernel_rfl) (by decide) (by kernel_rfl) ?ry22 (⟨a2, cd⟩) ?rm22
              case ry22 => first | exact Or.inl ⟨by rfl, by intro w' hw'; (try dsimp only at hw'); go_simp; first | done | rfl⟩
              case rm22 =>
              simp only [Act.put, List.setIfInBounds_toArray, List.set_cons_zero, List.set_cons_succ]
              refine anyT_put 4 65 ?rv23 #[true, true, true, true, true, false, false, false, false, false, false, false, false] rfl rfl rfl (by kernel_rfl) (by kernel_rfl) (by kernel_rfl) (fun _ _ _ h => h) (by decide) ?ry23 (fun _ => ⟨a2, cd⟩) ?rm23
              case ry23 => first | exact Or.inl ⟨by rfl, by intro w'; go_simp; first | done | rfl⟩
              case rm23 =>
              simp only [Act.put, List.setIfInBounds_toArray, List.set_cons_zero, List.set_cons_succ]
              refine anyT_put 5 66 ?rv24 #[true, true, true, true, true, true, false, false, false, false, false, false, false] rfl rfl rfl (by kernel_rfl) (by kernel_rfl) (by kernel_rfl) (fun _ _ _ h => h) (by decide) ?ry24 (fun _ => ⟨a2, cd⟩) ?rm24
              case ry24 => first | exact Or.inl ⟨by rfl, by intro w'; go_simp; first | done | rfl⟩
              case rm24 =>
              simp only [Act.put, List.setIfInBounds_toArray, List.set_cons_zero, List.set_cons_succ]
              refine anyT_take 6 67 ?rv25 #[true, true, true, true, true, true, true, false, false, false, false, false, false] rfl rfl rfl (by kernel_rfl) (by kernel_rfl) (by kernel_rfl) (fun _ _ _ h => h) (by kernel_rfl) (by decide) (by kernel_rfl) ?ry25 (⟨a2, cd⟩) ?rm25
              case ry25 => first | exact Or.inl ⟨by rfl, by intro w' hw'; (try dsimp only at hw'); go_simp; first | done | rfl⟩
              case rm25 =>
              simp only [Act.put, List.setIfInBounds_toArray, List.set_cons_zero, List.set_cons_succ]
              refine anyT_put 7 68 ?rv26 #[true, true, true, true, true, true, true, true, false, false, false, false, false] rfl rfl rfl (by kernel_rfl) (by kernel_rfl) (by kernel_rfl) (fun _ _ _ h => h) (by decide) ?ry26 (fun _ => ⟨a2, cd⟩) ?rm26
              case ry26 => first | exact Or.inl ⟨by rfl, by intro w'; go_simp; first | done | rfl⟩
              case rm26 =>
              simp only [Act.put, List.setIfInBounds_toArray, List.set_cons_zero, List.set_cons_succ]
              refine anyT_put 8 69 ?rv27 #[true, true, true, true, true, true, true, true, true, false, false, false, false] rfl rfl rfl (by kernel_rfl) (by kernel_rfl) (by kernel_rfl) (fun _ _ _ h => h) (by decide) ?ry27 (fun _ => ⟨a2, cd⟩) ?rm27
              case ry27 => first | exact Or.inl ⟨by rfl, by intro w'; go_simp; first | done | rfl⟩
              case rm27 =>
              simp only [Act.put, List.setIfInBounds_toArray, List.set_cons_zero, List.set_cons_succ]
              refine anyT_put 9 70 ?rv28 #[true, true, true, true, true, true, true, true, true, true, false, false, false] rfl rfl rfl (by kernel_rfl) (by kernel_rfl) (by kernel_rfl) (fun _ _ _ h => h) (by decide) ?ry28 (fun _ => ⟨a2, cd⟩) ?rm28
              case ry28 => first | exact Or.inl ⟨by rfl, by intro w'; go_simp; first | done | rfl⟩
              case rm28 =>
              simp only [Act.put, List.setIfInBounds_toArray, List.set_cons_zero, List.set_cons_succ]
              refine anyT_take 10 71 ?rv29 #[true, true, true, true, true, true, true, true, true, true, true, false, false] rfl rfl rfl (by kernel_rfl) (by kernel_rfl) (by kernel_rfl) (fun _ _ _ h => h) (by kernel_rfl) (by decide) (by kernel_rfl) ?ry29 (⟨a2, cd⟩) ?rm29
              case ry29 => first | exact Or.inl ⟨by rfl, by intro w' hw'; (try dsimp only at hw'); go_simp; first | done | rfl⟩
              case rm29 =>
              simp only [Act.put, List.setIfInBounds_toArray, List.set_cons_zero, List.set_cons_succ]
              refine anyT_one 11 #[true, true, true, true, true, true, true, true, true, true, true, true, false] (by kernel_rfl) rfl rfl (fun K hK => ?_)
              go_simp
              refine hK.out _ _ (fun h => absurd h (by decide)) ?_
              clear hK K
              refine anyT_one 12 #[true, true, true, true, true, true, true, true, true, true, true, true, true] (by kernel_rfl) rfl rfl (fun K hK => ?_)
              go_simp
              refine hK.out _ _ (fun h => absurd h (by decide)) ?_
              clear hK K
              refine anyT_done (by kernel_rfl) ?_
              go_wp2_with fail
              refine ⟨⟨k + 1, by omega, by go_num, ?_, ?_⟩, by simp [intOf]; omega⟩
              · have := new_put7 HQQ.out.1 hLk (nth dz' m)
                rw [HNX.out] at this
                exact this
              · exact (HQQ.out.2.setCell (p := ⟨bx, ox + L, none⟩) (by show v4.heap.size ≤ bx; omega) _).drew
            · obtain rfl : k = q := by omega
              obtain ⟨D, hD⟩ : ∃ D, D = ptV sz dz (bya bs) sz' dz' := ⟨_, rfl⟩
              have HD : Hid (D = ptV sz dz (bya bs) sz' dz' ∧ D.length = dz.length) := ⟨hD, by rw [hD, ptV_length]⟩
              have hq2 := HL.out.2
              have hrow2 : NewC v4.heap.size wr gx D gxc := by
                rw [hD, ← ptK_all, hq2]; exact hrow
              have HN6 : Hid (NewC v4.heap.size wr gx D gxc) := hrow2
              have HB6 : Hid (Below w.heap.size w wr) := hB
              have HP6 : Hid (Abx wr w.heap.size (.bool c) (.slice sa sz.length sc) (.slice da dz.length dc)) := HP4.out.go hBu
              have HR6 : Hid (Abx wr (w.heap.size + 1 + 1) (.bool false) (.slice none 0 0) (.slice none 0 0)) := HR4.out.go hBu
              have HSI : Hid (IsInts wr.heap.size wr sa sz) := (HI.out.1.below hB).mono hB.size
              have hzr : v4.heap.size ≤ wr.heap.size := hBu.size
              have e0 := HP6.out.c0
              have e1 := HP6.out.c1
              clear hrow hrow2 hB hBu hlt hk hq2 hD
              go_wp2_with fail
              refine anyT_begin 7 (fun w' => w'.cell? ⟨w.heap.size, 0, none⟩ = some (.bool c) ∧ w'.cell? ⟨w.heap.size, 1, none⟩ = some (.slice sa sz.length sc)) 9 #[false, false, false, false, false, false, false, false, false] (by kernel_rfl) rfl rfl ?_
              refine anyT_put 0 74 ?rv32 #[true, false, false, false, false, false, false, false, false] rfl rfl rfl (by kernel_rfl) (by kernel_rfl) (by kernel_rfl) (fun _ _ _ h => h) (by decide) ?ry32 (fun _ => ⟨e0, e1⟩) ?rm32
              case ry32 => first | exact Or.inl ⟨by rfl, by intro w'; go_simp; first | done | rfl⟩
              case rm32 =>
              simp only [Act.put, List.setIfInBounds_toArray, List.set_cons_zero, List.set_cons_succ]
              refine anyT_take 1 75 ?rv33 #[true, true, false, false, false, false, false, false, false] rfl rfl rfl (by kernel_rfl) (by kernel_rfl) (by kernel_rfl) (fun _ _ _ h => h) (by kernel_rfl) (by decide) (by kernel_rfl) ?ry33 (⟨e0, e1⟩) ?rm33
              case ry33 => first | exact Or.inl ⟨by rfl, by intro w' hw'; (try dsimp only at hw'); go_simp; first | done | rfl⟩
              case rm33 =>
              simp only [Act.put, List.setIfInBounds_toArray, List.set_cons_zero, List.set_cons_succ]
              refine anyT_put 2 76 ?rv34 #[true, true, true, false, false, false, false, false, false] rfl rfl rfl (by kernel_rfl) (by kernel_rfl) (by kernel_rfl) (fun _ _ _ h => h) (by decide) ?ry34 (fun _ => ⟨e0, e1⟩) ?rm34
              case ry34 => first | exact Or.inl ⟨by rfl, by intro w'; go_simp; first | done | rfl⟩
              case rm34 =>
              simp only [Act.put, List.setIfInBounds_toArray, List.set_cons_zero, List.set_cons_succ]
              refine anyT_take 3 77 ?rv35 #[true, true, true, true, false, false, false, false, false] rfl rfl rfl (by kernel_rfl) (by kernel_rfl) (by kernel_rfl) (fun _ _ _ h => h) (by kernel_rfl) (by decide) (by kernel_rfl) ?ry35 (⟨e0, e1⟩) ?rm35
              case ry35 => first | exact Or.inl ⟨by rfl, by intro w' hw'; (try dsimp only at hw'); go_simp; first | done | rfl⟩
              case rm35 =>
              simp only [Act.put, List.setIfInBounds_toArray, List.set_cons_zero, List.set_cons_succ]
              refine anyT_put 5 79 ?rv36 #[true, true, true, true, false, true, false, false, false] rfl rfl rfl (by kernel_rfl) (by kernel_rfl) (by kernel_rfl) (fun _ _ _ h => h) (by decide) ?ry36 (fun _ => ⟨e0, e1⟩) ?rm36
              case ry36 => first | exact Or.inl ⟨by rfl, by intro w'; go_simp; first | done | rfl⟩
              case rm36 =>
              simp only [Act.put, List.setIfInBounds_toArray, List.set_cons_zero, List.set_cons_succ]
              refine anyT_one 4 #[true, true, true, true, true, true, false, false, false] (by kernel_rfl) rfl rfl (fun K hK => ?_)
              refine app_copy_step 78 rfl rfl _ _ rfl _ sa sz sz.length sc rfl rfl rfl HSI.out (by omega) ?_
              intro gy gyc w2 hN7 hB7
              have hB7' : Below wr.heap.size wr w2 := (Below.refl wr.heap.size wr).drew.trans hB7
              have R7 := HR6.out.go hB7'
              have r0 := R7.c0
              have r1 := R7.c1
              have r2 := R7.c2
              have f0 := R7.fr 0
              have f1 := R7.fr 1
              have f2 := R7.fr 2
              have E7 := HP6.out.go hB7'
              refine hK.out _ _ (fun _ => ⟨E7.c0, E7.c1⟩) ?_
              clear hK K
              simp only [Act.put, List.setIfInBounds_toArray, List.set_cons_zero, List.set_cons_succ]
              refine anyT_put 6 80 ?rv38 #[true, true, true, true, true, true, true, false, false] rfl rfl rfl (by kernel_rfl) (by kernel_rfl) (by kernel_rfl) (fun _ _ _ h => h) (by decide) ?ry38 (fun _ => ⟨E7.c0, E7.c1⟩) ?rm38
              case ry38 => first | exact Or.inl ⟨by rfl, by intro w'; go_simp; first | done | rfl⟩
              case rm38 =>
              simp only [Act.put, List.setIfInBounds_toArray, List.set_cons_zero, List.set_cons_succ]
              refine anyT_one 7 #[true, true, true, true, true, true, true, true, false] (by kernel_rfl) rfl rfl (fun K hK => ?_)
              go_simp
              refine hK.out _ _ (fun h => absurd h (by decide)) ?_
              clear hK K
              refine anyT_one 8 #[true, true, true, true, true, true, true, true, true] (by kernel_rfl) rfl rfl (fun K hK => ?_)
              go_simp
              refine hK.out _ _ (fun h => absurd h (by decide)) ?_
              clear hK K
              refine anyT_done (by kernel_rfl) ?_
              go_wp2_with fail
              have F := R7.set3 (.bool c) (.slice gy sz.length gyc) (.slice gx dz.length gxc)
              have q0 := F.c0
              have q1 := F.c1
              have q2 := F.c2
              refine bodyPost_ret (v := .tuple #[.agg #[.bool c, .slice gy sz.length gyc, .slice gx dz.length gxc], .nilIface]) (by simp [results, Try.results7, go_sem, q0, q1, q2]) rfl ?_
              have hX := ((show NewC wr.heap.size w2 gy sz gyc from hN7).set3 (b := w.heap.size + 1 + 1) (by omega) (.bool c) (.slice gy sz.length gyc) (.slice gx dz.length gxc)).low (lo' := w.heap.size) (by omega)
              have hY := ((HN6.out.go hB7').set3 (b := w.heap.size + 1 + 1) (by omega) (.bool c) (.slice gy sz.length gyc) (.slice gx dz.length gxc)).low (lo' := w.heap.size) (by omega)
              have hZ := bel_set3 (HB6.out.trans (hB7'.mono HB6.out.size)) (b := w.heap.size + 1 + 1) (by omega) (.bool c) (.slice gy sz.length gyc) (.slice gx dz.length gxc)
              have hUB := ub_ok (c := c) (xc := gyc) (yc := gxc) HE.out hX hY hZ
              rw [HD.out.2] at hUB
              rw [← HD.out.1]
              exact hUB
        · have HE : Hid (ptE c sz dz (bya bs) c' sz' dz' = fiE c S c' sz') := by show _ = _; rw [HE4.out, ← HS.out]
          have HE0 : Hid (fiE c S c' sz' ≠ 0) := hfi
          rw [errV_pos hfi] at hfit
          clear hfi
          go_wp2_with fail
          refine hfit.mono ?_
          clear hfit
          rintro e v4 ⟨rfl, hC⟩
          have HB4 : Hid (Below w.heap.size w v4) := HB3.out.trans (hC.mono HB3.out.size)
          have HR4 : Hid (Abx v4 (w.heap.size + 1 + 1) (.bool false) (.slice none 0 0) (.slice none 0 0)) := HR3.out.go hC
          clear hC b0 d0 d1 d2
          have r0 := HR4.out.c0
          have r1 := HR4.out.c1
          have r2 := HR4.out.c2
          have f0 := HR4.out.fr 0
          have f1 := HR4.out.fr 1
          have f2 := HR4.out.fr 2
          go_wp2_with fail
          have F := HR4.out.set3 (.bool false) (.slice none 0 0) (.slice none 0 0)
          have q0 := F.c0
          have q1 := F.c1
          have q2 := F.c2
          exact bodyPost_ret (v := .tuple #[.agg #[.bool false, .slice none 0 0, .slice none 0 0], .iface 49 (.int .i64 (fiE c S c' sz'))]) (by simp [results, Try.results7, go_sem, q0, q1, q2]) rfl (ub_no HE.out HE0.out (bel_set3 HB4.out (by omega) _ _ _))
      · have HE : Hid (ptE c sz dz (bya bs) c' sz' dz' = nmE sz (bya bs)) := ptE_nm HA.out HV.out hn
        have HE0 : Hid (nmE sz (bya bs) ≠ 0) := hn
        rw [onl_no hn, onl_no hn, errV_pos hn]
        clear hn hS hPl
        have r0 := HR3.out.c0
        have r1 := HR3.out.c1
        have r2 := HR3.out.c2
        have f0 := HR3.out.fr 0
        have f1 := HR3.out.fr 1
        have f2 := HR3.out.fr 2
        go_wp2_with fail
        have F := HR3.out.set3 (.bool false) (.slice none 0 0) (.slice none 0 0)
        have q0 := F.c0
        have q1 := F.c1
        have q2 := F.c2
        exact bodyPost_ret (v := .tuple #[.agg #[.bool false, .slice none 0 0, .slice none 0 0], .iface 49 (.int .i64 (nmE sz (bya bs)))]) (by simp [results, Try.results7, go_sem, q0, q1, q2]) rfl (ub_no HE.out HE0.out (bel_set3 HB3.out (by omega) _ _ _))
    · have HE : Hid (ptE c sz dz (bya bs) c' sz' dz' = flawE c' sz' dz') := ptE_v HA.out hv
      have HE0 : Hid (flawE c' sz' dz' ≠ 0) := hv
      clear hv
      refine (check_no c' sa' sc' sz' da' dc' dz' h1' h2' v1 ((HI.out.2.2.2.1.below HB1.out).mono HB1.out.size) ((HI.out.2.2.2.2.below HB1.out).mono HB1.out.size) HE0.out).mono ?_
      rintro e v2 ⟨rfl, hC⟩
      have HB2 : Hid (Below w.heap.size w v2) := HB1.out.trans (hC.mono HB1.out.size)
      have HR2 : Hid (Abx v2 (w.heap.size + 1 + 1) (.bool false) (.slice none 0 0) (.slice none 0 0)) := HR1.out.go hC
      clear hC q0 q1 q2
      have r0 := HR2.out.c0
      have r1 := HR2.out.c1
      have r2 := HR2.out.c2
      have f0 := HR2.out.fr 0
      have f1 := HR2.out.fr 1
      have f2 := HR2.out.fr 2
      go_wp2_with fail
      have F := HR2.out.set3 (.bool false) (.slice none 0 0) (.slice none 0 0)
      have q0 := F.c0
      have q1 := F.c1
      have q2 := F.c2
      exact bodyPost_ret (v := .tuple #[.agg #[.bool false, .slice none 0 0, .slice none 0 0], .iface 49 (.int .i64 (flawE c' sz' dz'))]) (by simp [results, Try.results7, go_sem, q0, q1, q2]) rfl (ub_no HE.out HE0.out (bel_set3 HB2.out (by omega) _ _ _))
  · have HE : Hid (ptE c sz dz (bya bs) c' sz' dz' = alE c sz dz (bya bs)) := ptE_al ha
    have HE0 : Hid (alE c sz dz (bya bs) ≠ 0) := ha
    rw [errV_pos ha] at hp
    clear ha
    go_enter Try.func7, Try.ntmps7
    go_wp2_with fail
    refine hp.mono ?_
    clear hp
    rintro e v1 ⟨rfl, hC⟩
    have HB1 : Hid (Below w.heap.size w v1) := HB0.out.trans (hC.mono HB0.out.size)
    have HR1 : Hid (Abx v1 (w.heap.size + 1 + 1) (.bool false) (.slice none 0 0) (.slice none 0 0)) := HR0.out.go hC
    clear hC p0 p1 p2
    have r0 := HR1.out.c0
    have r1 := HR1.out.c1
    have r2 := HR1.out.c2
    have f0 := HR1.out.fr 0
    have f1 := HR1.out.fr 1
    have f2 := HR1.out.fr 2
    go_wp2_with fail
    have F := HR1.out.set3 (.bool false) (.slice none 0 0) (.slice none 0 0)
    have q0 := F.c0
    have q1 := F.c1
    have q2 := F.c2
    exact bodyPost_ret (v := .tuple #[.agg #[.bool false, .slice none 0 0, .slice none 0 0], .iface 49 (.int .i64 (alE c sz dz (bya bs)))]) (by simp [results, Try.results7, go_sem, q0, q1, q2]) rfl (ub_no HE.out HE0.out (bel_set3 HB1.out (by omega) _ _ _))
end Go.Proofs.Ytlflacoiidhgoaa
