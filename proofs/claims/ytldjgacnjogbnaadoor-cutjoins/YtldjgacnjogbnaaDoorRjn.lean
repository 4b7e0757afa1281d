/-
  What the reference joins.
-/
import Derived.Test.YtldjgacnjogbnaaDoorRsp
import Derived.Test.YtldjgacnjogbnaaDoorFlaws
namespace Go.Proofs.YtldjgacnjogbnaaDoor
open Go.RowKit
set_option linter.unusedVariables false

theorem where_nn (a : Option Addr) (cap : Nat) (zs : List Int) (n1 : Nat) (hn1 : zs.length = n1) (a' : Option Addr) (cap' n : Nat) (ts : List Int) (hn : ts.length = n) (P : Nat) (hP : place zs ts = P) (hreach : zs.length ≤ 9223372036854775807) (he : errOf zs = 0) (hins : insB zs ts = true) (n₀ : Nat) (w : World) (hI : IsInts n₀ w a zs) (hI' : IsInts n₀ w a' ts) :
    Calls Tryd.prog 31 #[.slice a n1 cap, .slice a' n cap'] w fun e w' => e = .returned (.int .i64 (P : Nat)) ∧ w' = w := by
  subst hn1
  exact where_n a cap zs a' cap' n ts hn P hP hreach he hins n₀ w hI hI'
set_option maxRecDepth 100000 in
set_option maxHeartbeats 16000000 in
theorem joined_any (x : Int) (c : Bool) (sa : Option Addr) (sc : Nat) (sz : List Int) (da : Option Addr) (dc : Nat) (dz : List Int) (c' : Bool) (sa' : Option Addr) (sc' : Nat) (sz' : List Int) (da' : Option Addr) (dc' : Nat) (dz' : List Int)
    (h1 : sz.length ≤ 9223372036854775807) (h2 : dz.length ≤ 9223372036854775807) (h1' : sz'.length ≤ 9223372036854775807) (h2' : dz'.length ≤ 9223372036854775807) (w : World) (hs : IsInts w.heap.size w sa sz) (hd : IsInts w.heap.size w da dz) (hs' : IsInts w.heap.size w sa' sz') (hd' : IsInts w.heap.size w da' dz') :
    Calls Tryd.prog 13 #[.int .i64 x, .agg #[.bool c, .slice sa sz.length sc, .slice da dz.length dc], .agg #[.bool c', .slice sa' sz'.length sc', .slice da' dz'.length dc']] w (UR (jnE x c sz dz c' sz' dz') (onc (jnE x c sz dz c' sz' dz') c) (onl (jnE x c sz dz c' sz' dz') (jnS x.toNat sz sz')) (onl (jnE x c sz dz c' sz' dz') (jnD x.toNat sz dz sz' dz')) w) := by
  have HI : Hid (IsInts w.heap.size w sa sz ∧ IsInts w.heap.size w da dz ∧ IsInts w.heap.size w sa' sz' ∧ IsInts w.heap.size w da' dz') := ⟨hs, hd, hs', hd'⟩
  clear hs hd hs' hd'
  have hb : Hid (Below w.heap.size w (((w.alloc (.cells #[.bool c, .slice sa sz.length sc, .slice da dz.length dc] 24)).alloc (.cells #[.bool c', .slice sa' sz'.length sc', .slice da' dz'.length dc'] 24)).alloc (.cells #[.bool false, .slice none 0 0, .slice none 0 0] 24))) := (((Below.refl _ w).alloc (Nat.le_refl _) _).alloc (by simp) _).alloc (by simp; omega) _
  have pa := ((Abx.new w (.bool c) (.slice sa sz.length sc) (.slice da dz.length dc)).al (.cells #[.bool c', .slice sa' sz'.length sc', .slice da' dz'.length dc'] 24)).al (.cells #[.bool false, .slice none 0 0, .slice none 0 0] 24)
  have pb := (Abx.new1 w (.cells #[.bool c, .slice sa sz.length sc, .slice da dz.length dc] 24) (.bool c') (.slice sa' sz'.length sc') (.slice da' dz'.length dc')).al (.cells #[.bool false, .slice none 0 0, .slice none 0 0] 24)
  have pr : Abx (((w.alloc (.cells #[.bool c, .slice sa sz.length sc, .slice da dz.length dc] 24)).alloc (.cells #[.bool c', .slice sa' sz'.length sc', .slice da' dz'.length dc'] 24)).alloc (.cells #[.bool false, .slice none 0 0, .slice none 0 0] 24)) (w.heap.size + 1 + 1) (.bool false) (.slice none 0 0) (.slice none 0 0) := by
    have h := Abx.new1 (w.alloc (.cells #[.bool c, .slice sa sz.length sc, .slice da dz.length dc] 24)) (.cells #[.bool c', .slice sa' sz'.length sc', .slice da' dz'.length dc'] 24) (.bool false) (.slice none 0 0) (.slice none 0 0)
    rw [World.size_alloc] at h
    exact h
  have p0 := pa.c0
  have p1 := pa.c1
  have p2 := pa.c2
  have q0 := pb.c0
  have q1 := pb.c1
  have q2 := pb.c2
  go_enter Tryd.func13, Tryd.ntmps13
  go_wp2_with fail
  refine (flaws_any c c' sa sc sz da dc dz sa' sc' sz' da' dc' dz' h1 h2 h1' h2' _ ((HI.out.1.below hb.out).mono hb.out.size) ((HI.out.2.1.below hb.out).mono hb.out.size) ((HI.out.2.2.1.below hb.out).mono hb.out.size) ((HI.out.2.2.2.below hb.out).mono hb.out.size)).mono ?_
  rintro e v1 ⟨rfl, hB⟩
  have HP : Hid (Abx v1 w.heap.size (.bool c) (.slice sa sz.length sc) (.slice da dz.length dc) ∧ Abx v1 (w.heap.size + 1) (.bool c') (.slice sa' sz'.length sc') (.slice da' dz'.length dc') ∧ Abx v1 (w.heap.size + 1 + 1) (.bool false) (.slice none 0 0) (.slice none 0 0) ∧ Below w.heap.size w v1) := ⟨pa.go hB, pb.go hB, pr.go hB, hb.out.trans (hB.mono hb.out.size)⟩
  have hR1 : (w.heap.size + 1 + 1) < v1.heap.size := HP.out.2.2.1.lt
  clear hB pa pb pr p0 p1 p2 q0 q1 q2 hb
  by_cases he : flawsE c sz dz c' sz' dz' = 0
  · rw [he]
    obtain ⟨f1, f2⟩ := flawsE_zero.1 he
    have HF : Hid ((flawE c sz dz = 0 ∧ errOf sz = 0 ∧ sz.length ≤ 6 ∧ dz.length ≤ 4096) ∧ flawE c' sz' dz' = 0 ∧ errOf sz' = 0 ∧ sz'.length ≤ 6 ∧ dz'.length ≤ 4096) := ⟨⟨f1, (flawE_zero f1).1, flawE_short f1⟩, f2, (flawE_zero f2).1, flawE_short f2⟩
    clear he f1 f2
    have p1 := HP.out.1.c1
    have q1 := HP.out.2.1.c1
    by_cases hlr : sz.length = sz'.length
    · have tr : ((sz.length : Int) != (sz'.length : Int)) = false := by simp [hlr]
      have HLR : Hid (sz.length = sz'.length) := hlr
      clear hlr
      by_cases hx0 : x < 0
      · have HE : Hid (jnE x c sz dz c' sz' dz' = 5) := by show _ = _; unfold jnE; rw [if_neg (by simpa using HF.out.1.1), if_neg (by simpa using HF.out.2.1), if_neg (by simpa using HLR.out), if_pos (.inl hx0)]
        have t1 : decide (x < 0) = true := by simp [hx0]
        clear hx0
        have r_0 := HP.out.2.2.1.c0
        have r_1 := HP.out.2.2.1.c1
        have r_2 := HP.out.2.2.1.c2
        have f_0 := HP.out.2.2.1.fr 0
        have f_1 := HP.out.2.2.1.fr 1
        have f_2 := HP.out.2.2.1.fr 2
        go_wp2_with fail
        have FF := HP.out.2.2.1.set3 (.bool false) (.slice none 0 0) (.slice none 0 0)
        have q0 := FF.c0
        have q1 := FF.c1
        have q2 := FF.c2
        exact bodyPost_ret (v := .tuple #[.agg #[.bool false, .slice none 0 0, .slice none 0 0], .int .i64 5]) (by simp [results, Tryd.results13, go_sem, q0, q1, q2]) rfl (UR.no HE.out (by decide) (bel_set3 HP.out.2.2.2 (by omega) _ _ _))
      · have t1 : decide (x < 0) = false := by simp [hx0]
        by_cases hx1 : (sz.length : Int) ≤ x
        · have HE : Hid (jnE x c sz dz c' sz' dz' = 5) := by show _ = _; unfold jnE; rw [if_neg (by simpa using HF.out.1.1), if_neg (by simpa using HF.out.2.1), if_neg (by simpa using HLR.out), if_pos (.inr hx1)]
          have t2 : decide ((sz.length : Int) ≤ x) = true := by simp [hx1]
          clear hx1
          have r_0 := HP.out.2.2.1.c0
          have r_1 := HP.out.2.2.1.c1
          have r_2 := HP.out.2.2.1.c2
          have f_0 := HP.out.2.2.1.fr 0
          have f_1 := HP.out.2.2.1.fr 1
          have f_2 := HP.out.2.2.1.fr 2
          go_wp2_with fail
          have FF := HP.out.2.2.1.set3 (.bool false) (.slice none 0 0) (.slice none 0 0)
          have q0 := FF.c0
          have q1 := FF.c1
          have q2 := FF.c2
          exact bodyPost_ret (v := .tuple #[.agg #[.bool false, .slice none 0 0, .slice none 0 0], .int .i64 5]) (by simp [results, Tryd.results13, go_sem, q0, q1, q2]) rfl (UR.no HE.out (by decide) (bel_set3 HP.out.2.2.2 (by omega) _ _ _))
        · have t2 : decide ((sz.length : Int) ≤ x) = false := by simp [hx1]
          obtain ⟨xn, hxn⟩ : ∃ xn : Nat, (xn : Int) = x := ⟨x.toNat, by omega⟩
          have hxl : xn < sz.length := by omega
          have HX : Hid (¬ ((xn : Int) < 0 ∨ (sz.length : Int) ≤ xn)) := by show ¬ _; omega
          subst hxn
          obtain ⟨bs, os, rfl, hbs, hcS⟩ := (HI.out.1.below HP.out.2.2.2).at hxl
          obtain ⟨bs', os', rfl, hbs', hcS'⟩ := (HI.out.2.2.1.below HP.out.2.2.2).at (q := xn) (by rw [← HLR.out]; exact hxl)
          clear hcS hcS' hx0 hx1
          go_wp2_with fail
          clear tr t1 t2 p1 q1
          go_loopw [9] (fun i wx => ∃ k : Nat, k ≤ sz.length ∧ i = .int .i64 k ∧ (∀ j, j < k → j ≠ xn → nth sz j = nth sz' j) ∧ Abx wx w.heap.size (.bool c) (.slice (some ⟨bs, os, none⟩) sz.length sc) (.slice da dz.length dc) ∧ Abx wx (w.heap.size + 1) (.bool c') (.slice (some ⟨bs', os', none⟩) sz'.length sc') (.slice da' dz'.length dc') ∧ Abx wx (w.heap.size + 1 + 1) (.bool false) (.slice none 0 0) (.slice none 0 0) ∧ Below w.heap.size w wx) (fun i _ => sz.length - (intOf i).toNat)
          case atStart => exact ⟨0, Nat.zero_le _, rfl, fun j hj => absurd hj (Nat.not_lt_zero _), HP.out⟩
          case round =>
            obtain ⟨k, hk, rfl, hall, hW⟩ := hrel
            have HAl : Hid (∀ j, j < k → j ≠ xn → nth sz j = nth sz' j) := hall
            have HW : Hid (Abx wr w.heap.size (.bool c) (.slice (some ⟨bs, os, none⟩) sz.length sc) (.slice da dz.length dc) ∧ Abx wr (w.heap.size + 1) (.bool c') (.slice (some ⟨bs', os', none⟩) sz'.length sc') (.slice da' dz'.length dc') ∧ Abx wr (w.heap.size + 1 + 1) (.bool false) (.slice none 0 0) (.slice none 0 0) ∧ Below w.heap.size w wr) := hW
            have p1 := HW.out.1.c1
            have q1 := HW.out.2.1.c1
            clear hall hW
            by_cases hlt : k < sz.length
            · obtain ⟨_, _, e1, hb1, hc1⟩ := (HI.out.1.below HW.out.2.2.2).at hlt
              have hlt' : k < sz'.length := by rw [← HLR.out]; exact hlt
              obtain ⟨_, _, e2, hb2, hc2⟩ := (HI.out.2.2.1.below HW.out.2.2.2).at hlt'
              cases e1
              cases e2
              have c1 := hc1 k hlt
              have c2 := hc2 k hlt'
              obtain ⟨a0, ha0⟩ : ∃ a0, a0 = nth sz k := ⟨_, rfl⟩
              obtain ⟨b0, hb0⟩ : ∃ b0, b0 = nth sz' k := ⟨_, rfl⟩
              rw [← ha0] at c1
              rw [← hb0] at c2
              have HAB : Hid (nth sz k = a0 ∧ nth sz' k = b0) := ⟨ha0.symm, hb0.symm⟩
              clear hc1 hc2 ha0 hb0
              by_cases hkx : k = xn
              · have tk : ((k : Int) != (xn : Int)) = false := by simp [hkx]
                have HA2 : Hid (∀ j, j < k + 1 → j ≠ xn → nth sz j = nth sz' j) := fun j hj hn => HAl.out j (by omega) hn
                clear hkx
                go_wp2_with fail
                go_quiet (fail)
                go_wp2_with fail
                exact ⟨⟨k + 1, by omega, by go_num, HA2.out, HW.out.1, HW.out.2.1, HW.out.2.2.1, bel_drewN HW.out.2.2.2 _⟩, by simp [intOf]; omega⟩
              · have tk : ((k : Int) != (xn : Int)) = true := by simp; omega
                by_cases hab : a0 = b0
                · have tb : (a0 != b0) = false := by simp [hab]
                  have HA2 : Hid (∀ j, j < k + 1 → j ≠ xn → nth sz j = nth sz' j) := fun j hj hn => by
                    by_cases e : j = k
                    · rw [e, HAB.out.1, HAB.out.2]; exact hab
                    · exact HAl.out j (by omega) hn
                  clear hkx hab
                  go_wp2_with fail
                  go_quiet (fail)
                  go_wp2_with fail
                  exact ⟨⟨k + 1, by omega, by go_num, HA2.out, HW.out.1, HW.out.2.1, HW.out.2.2.1, bel_drewN HW.out.2.2.2 _⟩, by simp [intOf]; omega⟩
                · have tb : (a0 != b0) = true := by simpa using hab
                  have HE : Hid (jnE xn c sz dz c' sz' dz' = 4) := by
                    show _ = _
                    have ho : othB xn sz sz' = false := by
                      cases h : othB xn sz sz'
                      · rfl
                      · exact absurd (othB_iff.1 h k hlt hkx) (by rw [HAB.out.1, HAB.out.2]; exact hab)
                    unfold jnE
                    rw [if_neg (by simpa using HF.out.1.1), if_neg (by simpa using HF.out.2.1), if_neg (by simpa using HLR.out), if_neg HX.out, Int.toNat_natCast, if_pos ho]
                  clear hkx hab
                  go_wp2_with fail
                  go_quiet (fail)
                  obtain ⟨v2, hv2⟩ : ∃ v2, v2 = wr.drewN nq := ⟨_, rfl⟩
                  rw [← hv2]
                  have HR4 : Hid (Abx v2 (w.heap.size + 1 + 1) (.bool false) (.slice none 0 0) (.slice none 0 0) ∧ Below w.heap.size w v2) := by rw [hv2]; exact ⟨HW.out.2.2.1, bel_drewN HW.out.2.2.2 _⟩
                  clear hv2 p1 q1 c1 c2
                  have r_0 := HR4.out.1.c0
                  have r_1 := HR4.out.1.c1
                  have r_2 := HR4.out.1.c2
                  have f_0 := HR4.out.1.fr 0
                  have f_1 := HR4.out.1.fr 1
                  have f_2 := HR4.out.1.fr 2
                  go_wp2_with fail
                  have FF := HR4.out.1.set3 (.bool false) (.slice none 0 0) (.slice none 0 0)
                  have q0 := FF.c0
                  have q1 := FF.c1
                  have q2 := FF.c2
                  exact bodyPost_ret (v := .tuple #[.agg #[.bool false, .slice none 0 0, .slice none 0 0], .int .i64 4]) (by simp [results, Tryd.results13, go_sem, q0, q1, q2]) rfl (UR.no HE.out (by decide) (bel_set3 HR4.out.2 (by omega) _ _ _))
            · obtain rfl : k = sz.length := by omega
              have HOt : Hid (othB xn sz sz' = true) := othB_iff.2 HAl.out
              clear hlt HAl
              by_cases hcc : c = c'
              · subst hcc
                have tc' : (c != c) = false := by simp
                obtain ⟨n, hn⟩ : ∃ n, n = sz.length := ⟨_, rfl⟩
                have HN : Hid (sz.length = n ∧ sz'.length = n) := ⟨hn.symm, by rw [hn]; exact HLR.out.symm⟩
                have hxn : xn < n := by rw [hn]; exact hxl
                have hn6 : n ≤ 6 := by have := HF.out.1.2.2.1; omega
                obtain ⟨v2, hv2⟩ : ∃ v2, v2 = wr := ⟨_, rfl⟩
                have HW2 : Hid (Abx v2 w.heap.size (.bool c) (.slice (some ⟨bs, os, none⟩) n sc) (.slice da dz.length dc) ∧ Abx v2 (w.heap.size + 1) (.bool c) (.slice (some ⟨bs', os', none⟩) n sc') (.slice da' dz'.length dc') ∧ Abx v2 (w.heap.size + 1 + 1) (.bool false) (.slice none 0 0) (.slice none 0 0) ∧ Below w.heap.size w v2) := by have h := HW.out; rw [← HLR.out, ← hn] at h; rw [hv2]; exact h
                rw [← hn, ← hv2] at p1
                rw [← HLR.out, ← hn, ← hv2] at q1
                rw [← hn]
                rw [← hv2]
                clear hn HW hv2
                have p0 := HW2.out.1.c0
                have q0 := HW2.out.2.1.c0
                have hxl' : xn < sz'.length := by rw [HN.out.2]; exact hxn
                go_wp2_with fail
                refine (copied_n (some ⟨bs, os, none⟩) sc sz n HN.out.1 (by rw [HN.out.1]; omega) v2 ((HI.out.1.below HW2.out.2.2.2).mono HW2.out.2.2.2.size)).mono ?_
                rintro e v3 ⟨g0, gc, rfl, hG, hBc⟩
                rcases hG with e0 | ⟨bt, ot, rfl, l0, hbt, hcT, hfT⟩
                · rw [e0] at hxl; simp at hxl
                have HG : Hid (NewInts v2.heap.size v3 (some ⟨bt, ot, none⟩) sz) := .inr ⟨bt, ot, rfl, l0, hbt, hcT, hfT⟩
                have HBc : Hid (Below v2.heap.size v2 v3) := hBc
                have HBw3 : Hid (Below w.heap.size w v3) := HW2.out.2.2.2.trans (hBc.mono HW2.out.2.2.2.size)
                have ct := hcT xn hxl
                have fT := hfT xn
                obtain ⟨_, _, e2, hb2', hc2⟩ := (HI.out.2.2.1.below HBw3.out).at hxl'
                cases e2
                have cu := hc2 xn hxl'
                have bdA := (errOf_zero.1 HF.out.1.2.1).2.1.nth xn
                have bdB := (errOf_zero.1 HF.out.2.2.1).2.1.nth xn
                obtain ⟨T0, hT0⟩ : ∃ T0, T0 = nth sz xn := ⟨_, rfl⟩
                obtain ⟨U0, hU0⟩ : ∃ U0, U0 = nth sz' xn := ⟨_, rfl⟩
                rw [← hT0] at ct bdA
                rw [← hU0] at cu bdB
                have HTU : Hid (nth sz xn = T0 ∧ nth sz' xn = U0) := ⟨hT0.symm, hU0.symm⟩
                have HTb : Hid (0 ≤ T0 ∧ T0 ≤ 4096) := bdA
                have hw : IntKind.i64.wrap (T0 + U0) = T0 + U0 := IntWalk.i64_in _ (by omega)
                obtain ⟨S, hS⟩ : ∃ S, S = sz.set xn (T0 + U0) := ⟨_, rfl⟩
                have HS : Hid (S = jnS xn sz sz' ∧ S.length = n) := ⟨by rw [hS]; unfold jnS; rw [HTU.out.1, HTU.out.2], by rw [hS, List.length_set]; exact HN.out.1⟩
                obtain ⟨v4, hv4⟩ : ∃ v4, v4 = (v3.setCell ⟨bt, ot + xn, none⟩ (.int .i64 (T0 + U0))).drew := ⟨_, rfl⟩
                have HV4 : Hid (v4 = (v3.setCell ⟨bt, ot + xn, none⟩ (.int .i64 (T0 + U0))).drew) := hv4
                have HG2 : Hid (NewInts v2.heap.size v4 (some ⟨bt, ot, none⟩) S) := by rw [hS, hv4]; exact NewInts.put HG.out hxl _
                have HB4 : Hid (Below v2.heap.size v2 v4) := by rw [hv4]; exact (hBc.setCell (p := ⟨bt, ot + xn, none⟩) l0 _).drew
                have b1' := (HW2.out.2.1.go hBc).c1
                clear hcT hfT hBc hS hv4 hc2 hT0 hU0 p0 q0 p1 q1 bdA bdB
                go_wp2_with fail
                refine anyT_begin 12 (fun w' => w'.cell? ⟨bt, ot + xn, none⟩ = some (.int .i64 T0) ∧ w'.cell? ⟨w.heap.size + 1, 1, none⟩ = some (.slice (some ⟨bs', os', none⟩) n sc') ∧ w'.cell? ⟨bs', os' + xn, none⟩ = some (.int .i64 U0)) 14 #[false, false, false, false, false, false, false, false, false, false, false, false, false, false] (by kernel_rfl) rfl rfl ?_
                refine anyT_put 0 73 ?rv0 #[true, false, false, false, false, false, false, false, false, false, false, false, false, false] rfl rfl rfl (by kernel_rfl) (by kernel_rfl) (by kernel_rfl) (fun _ _ _ h => h) (by decide) ?ry0 (fun _ => ⟨ct, b1', cu⟩) ?rm0
                case ry0 => first | exact Or.inl ⟨by rfl, by intro w'; go_simp; first | done | rfl⟩
                case rm0 =>
                simp only [Act.put, List.setIfInBounds_toArray, List.set_cons_zero, List.set_cons_succ]
                refine anyT_put 1 74 ?rv1 #[true, true, false, false, false, false, false, false, false, false, false, false, false, false] rfl rfl rfl (by kernel_rfl) (by kernel_rfl) (by kernel_rfl) (fun _ _ _ h => h) (by decide) ?ry1 (fun _ => ⟨ct, b1', cu⟩) ?rm1
                case ry1 => first | exact Or.inl ⟨by rfl, by intro w'; go_simp; first | done | rfl⟩
                case rm1 =>
                simp only [Act.put, List.setIfInBounds_toArray, List.set_cons_zero, List.set_cons_succ]
                refine anyT_put 2 75 ?rv2 #[true, true, true, false, false, false, false, false, false, false, false, false, false, false] rfl rfl rfl (by kernel_rfl) (by kernel_rfl) (by kernel_rfl) (fun _ _ _ h => h) (by decide) ?ry2 (fun _ => ⟨ct, b1', cu⟩) ?rm2
                case ry2 => first | exact Or.inl ⟨by rfl, by intro w'; go_simp; first | done | rfl⟩
                case rm2 =>
                simp only [Act.put, List.setIfInBounds_toArray, List.set_cons_zero, List.set_cons_succ]
                refine anyT_put 3 76 ?rv3 #[true, true, true, true, false, false, false, false, false, false, false, false, false, false] rfl rfl rfl (by kernel_rfl) (by kernel_rfl) (by kernel_rfl) (fun _ _ _ h => h) (by decide) ?ry3 (fun _ => ⟨ct, b1', cu⟩) ?rm3
                case ry3 => first | exact Or.inl ⟨by rfl, by intro w'; go_simp; first | done | rfl⟩
                case rm3 =>
                simp only [Act.put, List.setIfInBounds_toArray, List.set_cons_zero, List.set_cons_succ]
                refine anyT_put 4 77 ?rv4 #[true, true, true, true, true, false, false, false, false, false, false, false, false, false] rfl rfl rfl (by kernel_rfl) (by kernel_rfl) (by kernel_rfl) (fun _ _ _ h => h) (by decide) ?ry4 (fun _ => ⟨ct, b1', cu⟩) ?rm4
                case ry4 => first | exact Or.inl ⟨by rfl, by intro w'; go_simp; first | done | rfl⟩
                case rm4 =>
                simp only [Act.put, List.setIfInBounds_toArray, List.set_cons_zero, List.set_cons_succ]
                refine anyT_take 5 78 ?rv5 #[true, true, true, true, true, true, false, false, false, false, false, false, false, false] rfl rfl rfl (by kernel_rfl) (by kernel_rfl) (by kernel_rfl) (fun _ _ _ h => h) (by kernel_rfl) (by decide) (by kernel_rfl) ?ry5 (⟨ct, b1', cu⟩) ?rm5
                case ry5 => first | exact Or.inl ⟨by rfl, by intro w' hw'; (try dsimp only at hw'); go_simp; first | done | rfl⟩
                case rm5 =>
                simp only [Act.put, List.setIfInBounds_toArray, List.set_cons_zero, List.set_cons_succ]
                refine anyT_put 6 79 ?rv6 #[true, true, true, true, true, true, true, false, false, false, false, false, false, false] rfl rfl rfl (by kernel_rfl) (by kernel_rfl) (by kernel_rfl) (fun _ _ _ h => h) (by decide) ?ry6 (fun _ => ⟨ct, b1', cu⟩) ?rm6
                case ry6 => first | exact Or.inl ⟨by rfl, by intro w'; go_simp; first | done | rfl⟩
                case rm6 =>
                simp only [Act.put, List.setIfInBounds_toArray, List.set_cons_zero, List.set_cons_succ]
                refine anyT_take 7 80 ?rv7 #[true, true, true, true, true, true, true, true, false, false, false, false, false, false] rfl rfl rfl (by kernel_rfl) (by kernel_rfl) (by kernel_rfl) (fun _ _ _ h => h) (by kernel_rfl) (by decide) (by kernel_rfl) ?ry7 (⟨ct, b1', cu⟩) ?rm7
                case ry7 => first | exact Or.inl ⟨by rfl, by intro w' hw'; (try dsimp only at hw'); go_simp; first | done | rfl⟩
                case rm7 =>
                simp only [Act.put, List.setIfInBounds_toArray, List.set_cons_zero, List.set_cons_succ]
                refine anyT_put 8 81 ?rv8 #[true, true, true, true, true, true, true, true, true, false, false, false, false, false] rfl rfl rfl (by kernel_rfl) (by kernel_rfl) (by kernel_rfl) (fun _ _ _ h => h) (by decide) ?ry8 (fun _ => ⟨ct, b1', cu⟩) ?rm8
                case ry8 => first | exact Or.inl ⟨by rfl, by intro w'; go_simp; first | done | rfl⟩
                case rm8 =>
                simp only [Act.put, List.setIfInBounds_toArray, List.set_cons_zero, List.set_cons_succ]
                refine anyT_put 9 82 ?rv9 #[true, true, true, true, true, true, true, true, true, true, false, false, false, false] rfl rfl rfl (by kernel_rfl) (by kernel_rfl) (by kernel_rfl) (fun _ _ _ h => h) (by decide) ?ry9 (fun _ => ⟨ct, b1', cu⟩) ?rm9
                case ry9 => first | exact Or.inl ⟨by rfl, by intro w'; go_simp; first | done | rfl⟩
                case rm9 =>
                simp only [Act.put, List.setIfInBounds_toArray, List.set_cons_zero, List.set_cons_succ]
                refine anyT_take 10 83 ?rv10 #[true, true, true, true, true, true, true, true, true, true, true, false, false, false] rfl rfl rfl (by kernel_rfl) (by kernel_rfl) (by kernel_rfl) (fun _ _ _ h => h) (by kernel_rfl) (by decide) (by kernel_rfl) ?ry10 (⟨ct, b1', cu⟩) ?rm10
                case ry10 => first | exact Or.inl ⟨by rfl, by intro w' hw'; (try dsimp only at hw'); go_simp; first | done | rfl⟩
                case rm10 =>
                simp only [Act.put, List.setIfInBounds_toArray, List.set_cons_zero, List.set_cons_succ]
                refine anyT_put 11 84 ?rv11 #[true, true, true, true, true, true, true, true, true, true, true, true, false, false] rfl rfl rfl (by kernel_rfl) (by kernel_rfl) (by kernel_rfl) (fun _ _ _ h => h) (by decide) ?ry11 (fun _ => ⟨ct, b1', cu⟩) ?rm11
                case ry11 => first | exact Or.inl ⟨by rfl, by intro w'; go_simp; first | done | rfl⟩
                case rm11 =>
                simp only [Act.put, List.setIfInBounds_toArray, List.set_cons_zero, List.set_cons_succ]
                refine anyT_one 12 #[true, true, true, true, true, true, true, true, true, true, true, true, true, false] (by kernel_rfl) rfl rfl (fun K hK => ?_)
                go_simp
                refine hK.out _ _ (fun h => absurd h (by decide)) ?_
                clear hK K
                refine anyT_one 13 #[true, true, true, true, true, true, true, true, true, true, true, true, true, true] (by kernel_rfl) rfl rfl (fun K hK => ?_)
                go_simp
                refine hK.out _ _ (fun h => absurd h (by decide)) ?_
                clear hK K
                refine anyT_done (by kernel_rfl) ?_
                rw [← HV4.out]
                have HW4 : Hid (Abx v4 w.heap.size (.bool c) (.slice (some ⟨bs, os, none⟩) n sc) (.slice da dz.length dc) ∧ Abx v4 (w.heap.size + 1) (.bool c) (.slice (some ⟨bs', os', none⟩) n sc') (.slice da' dz'.length dc') ∧ Abx v4 (w.heap.size + 1 + 1) (.bool false) (.slice none 0 0) (.slice none 0 0) ∧ Below w.heap.size w v4) := ⟨HW2.out.1.go HB4.out, HW2.out.2.1.go HB4.out, HW2.out.2.2.1.go HB4.out, HW2.out.2.2.2.trans (HB4.out.mono HW2.out.2.2.2.size)⟩
                have hv24 := HB4.out.size
                have hv0 := HW2.out.2.2.2.size
                have hR2 := HW2.out.2.2.1.lt
                clear ct fT cu b1' hw
                go_wp2_with fail
                refine (fault_n (some ⟨bt, ot, none⟩) gc S n HS.out.2 (by rw [HS.out.2]; omega) v4.heap.size v4 HG2.out.ints).mono ?_
                rintro e v9 ⟨rfl, hv9⟩
                obtain rfl := hv9.symm
                by_cases hES : errOf S = 0
                · rw [hES]
                  have HES : Hid (errOf S = 0) := hES
                  have HE : Hid (jnE xn c sz dz c sz' dz' = 0) := jnZ.2 ⟨HF.out.1.1, HF.out.2.1, HLR.out, hxl, HOt.out, rfl, by rw [← HS.out.1]; exact hES⟩
                  obtain ⟨q, hq⟩ : ∃ q : Nat, prod S = q := ⟨(prod S).toNat, by have := prod_nonneg (errOf_zero.1 hES).2.1; omega⟩
                  have hq4 : q ≤ 4096 := by have := (errOf_zero.1 hES).2.2; omega
                  obtain ⟨D, hD⟩ : ∃ D, D = jnD xn sz dz sz' dz' := ⟨_, rfl⟩
                  have HD : Hid (D = jnD xn sz dz sz' dz' ∧ D.length = q ∧ prod S = q) := ⟨hD, by rw [hD]; unfold jnD; rw [TA_length, ← HS.out.1]; omega, hq⟩
                  have hDq1 : D.length ≤ q := by have := HD.out.2.1; omega
                  have hDq2 : q ≤ D.length := by have := HD.out.2.1; omega
                  have a0 := HW4.out.1.c0
                  obtain ⟨B, hB⟩ : ∃ B, B = v4.heap.size := ⟨_, rfl⟩
                  obtain ⟨v5, hv5⟩ : ∃ v5, v5 = v4.alloc (.cells #[.bool c, .slice (some ⟨bt, ot, none⟩) n gc, .slice none 0 0] 24) := ⟨_, rfl⟩
                  have HV5 : Hid (v5 = v4.alloc (.cells #[.bool c, .slice (some ⟨bt, ot, none⟩) n gc, .slice none 0 0] 24) ∧ B = v4.heap.size) := ⟨hv5, hB⟩
                  have HO : Hid ((Abx v5 w.heap.size (.bool c) (.slice (some ⟨bs, os, none⟩) n sc) (.slice da dz.length dc) ∧ Abx v5 (w.heap.size + 1) (.bool c) (.slice (some ⟨bs', os', none⟩) n sc') (.slice da' dz'.length dc') ∧ Abx v5 (w.heap.size + 1 + 1) (.bool false) (.slice none 0 0) (.slice none 0 0) ∧ Below w.heap.size w v5) ∧ Abx v5 B (.bool c) (.slice (some ⟨bt, ot, none⟩) n gc) (.slice none 0 0) ∧ SepInts v2.heap.size v5.heap.size B v5 (some ⟨bt, ot, none⟩) S) := by
                    rw [hv5, hB]
                    exact ⟨⟨HW4.out.1.al _, HW4.out.2.1.al _, HW4.out.2.2.1.al _, HW4.out.2.2.2.alloc HW4.out.2.2.2.size _⟩, Abx.new v4 _ _ _, ((SepInts.of_new HG2.out (.inr (Nat.le_refl _))).al (Nat.le_refl _) _).high (by simp)⟩
                  have hBl : (w.heap.size + 1 + 1) < B := by rw [hB]; omega
                  have hB5 : B < v5.heap.size := HO.out.2.1.lt
                  have hv25 : v2.heap.size ≤ v5.heap.size := by rw [hv5]; simp; omega
                  clear hES hq hD hB hv5
                  go_wp2_with fail
                  rw [← HV5.out.2, ← HV5.out.1]
                  refine (cells_n (some ⟨bt, ot, none⟩) gc S n q HS.out.2 HD.out.2.2 (by rw [HS.out.2]; omega) HES.out v5.heap.size v5 ((HO.out.2.2.new (Nat.le_refl _)).ints)).mono ?_
                  rintro e v9 ⟨rfl, hv9⟩
                  obtain rfl := hv9.symm
                  go_wp2_with fail
                  go_loopw [13] (fun i wx => ∃ (k : Nat) (v : Value), k ≤ q ∧ i = .int .i64 k ∧ (Abx wx w.heap.size (.bool c) (.slice (some ⟨bs, os, none⟩) n sc) (.slice da dz.length dc) ∧ Abx wx (w.heap.size + 1) (.bool c) (.slice (some ⟨bs', os', none⟩) n sc') (.slice da' dz'.length dc') ∧ Abx wx (w.heap.size + 1 + 1) (.bool false) (.slice none 0 0) (.slice none 0 0) ∧ Below w.heap.size w wx) ∧ Abx wx B (.bool c) (.slice (some ⟨bt, ot, none⟩) n gc) v
                      ∧ wx.ownsRow v5.heap.size 3 1 v (D.take k).length ((D.take k).map (Value.int .i64)) ∧ SepInts v2.heap.size v5.heap.size B wx (some ⟨bt, ot, none⟩) S ∧ v5.heap.size ≤ wx.heap.size) (fun i _ => q - (intOf i).toNat)
                  case atStart => exact ⟨0, .slice none 0 0, Nat.zero_le _, rfl, HO.out.1, HO.out.2.1, World.ownsRow_nil _ _ _ _, HO.out.2.2, Nat.le_refl _⟩
                  case round =>
                    obtain ⟨k, v, hk, rfl, hW3, hU, hown, hSp, hsx⟩ := hrel
                    by_cases hlt : k < q
                    · have HKk : Hid ((k : Int) < prod S) := by show _ < _; rw [HD.out.2.2]; omega
                      have HQ : Hid ((Abx wr w.heap.size (.bool c) (.slice (some ⟨bs, os, none⟩) n sc) (.slice da dz.length dc) ∧ Abx wr (w.heap.size + 1) (.bool c) (.slice (some ⟨bs', os', none⟩) n sc') (.slice da' dz'.length dc') ∧ Abx wr (w.heap.size + 1 + 1) (.bool false) (.slice none 0 0) (.slice none 0 0) ∧ Below w.heap.size w wr) ∧ Abx wr B (.bool c) (.slice (some ⟨bt, ot, none⟩) n gc) v ∧ SepInts v2.heap.size v5.heap.size B wr (some ⟨bt, ot, none⟩) S) := ⟨hW3, hU, hSp⟩
                      clear hW3 hU hSp
                      go_wp2_with fail
                      refine (coords_n (some ⟨bt, ot, none⟩) gc S n k HS.out.2 HES.out HKk.out wr ((HQ.out.2.2.new hsx).ints)).mono ?_
                      rintro e w2 ⟨ta, tc, rfl, hA, hB3⟩
                      have hcin := cr_fact HES.out HKk.out
                      obtain ⟨t, ht⟩ : ∃ t, t = cr S k := ⟨_, rfl⟩
                      rw [← ht] at hA hcin
                      have hxt : xn < t.length := by rw [insB_len hcin.1, HS.out.2]; exact hxn
                      rcases hA with e0 | ⟨b1, o1, rfl, l1, hb1, hcT, hfT⟩
                      · rw [e0] at hxt; simp at hxt
                      have HA1 : Hid (NewInts wr.heap.size w2 (some ⟨b1, o1, none⟩) t) := .inr ⟨b1, o1, rfl, l1, hb1, hcT, hfT⟩
                      have hti : insB (jnS xn sz sz') t = true := by rw [← HS.out.1]; exact hcin.1
                      have hxi := ins_at hcin.1 (x := xn) (by rw [HS.out.2]; exact hxn)
                      have hS4 := ((errOf_zero.1 HES.out).2.1.nth xn).2
                      have HT : Hid (t = cr S k ∧ insB (jnS xn sz sz') t = true ∧ t.length = n) := ⟨ht, hti, by rw [insB_len hcin.1]; exact HS.out.2⟩
                      have ct := hcT xn hxt
                      have fT := hfT xn
                      obtain ⟨i, hi⟩ : ∃ i, i = nth t xn := ⟨_, rfl⟩
                      rw [← hi] at ct hxi
                      have hi0 : 0 ≤ i := hxi.1
                      have hi4 : i ≤ 4096 := by omega
                      have HIx : Hid (nth t xn = i) := hi.symm
                      have HB3 : Hid (Below wr.heap.size wr w2) := hB3
                      have HBw2 : Hid (Below w.heap.size w w2) := HQ.out.1.2.2.2.trans (hB3.mono HQ.out.1.2.2.2.size)
                      obtain ⟨_, _, e2, hb2', hc2⟩ := (HI.out.1.below HBw2.out).at hxl
                      cases e2
                      have cs := hc2 xn hxl
                      rw [HTU.out.1] at cs
                      have p1 := (HQ.out.1.1.go hB3).c1
                      have HDk : Hid (nth D k = jnC xn sz dz sz' dz' t) := by show _ = _; rw [HD.out.1]; unfold jnD; rw [← HS.out.1, TA_nth (by have := HD.out.2.2; omega), ht]
                      have hT0a := HTb.out.1
                      have hT0b := HTb.out.2
                      clear hcT hfT hB3 hcin hti hxi hS4 ht hi hc2
                      by_cases hlt2 : i < T0
                      · have td : decide (i < T0) = true := by simp [hlt2]
                        have HTi : Hid (insB sz t = true) := jn_left hxl HT.out.2.1 (by rw [HIx.out, HTU.out.1]; exact hlt2)
                        have HV0 : Hid (nth D k = cel sz dz t) := by show _ = _; rw [HDk.out]; unfold jnC; rw [HIx.out, HTU.out.1, if_pos hlt2]
                        clear hlt2
                        go_wp2_with fail
                        go_quiet (fail)
                        obtain ⟨u, hu⟩ : ∃ u, u = w2.drewN nq := ⟨_, rfl⟩
                        rw [← hu]
                        obtain ⟨ts, hts⟩ : ∃ ts, ts = t := ⟨_, rfl⟩
                        subst hts
                        have HUz : Hid (IsInts u.heap.size u (some ⟨b1, o1, none⟩) ts ∧ Below wr.heap.size wr u) := by rw [hu]; exact ⟨HA1.out.ints, bel_drewN HB3.out _⟩
                        have htl : Hid (ts.length = n) := HT.out.2.2
                        clear hu cs ct fT p1
                        have HPl : Hid (0 ≤ place sz ts ∧ place sz ts < dz.length) := by have := place_bd HTi.out; have h := (flawE_zero HF.out.1.1).2.1; exact ⟨this.1, by rw [h]; exact this.2⟩
                        obtain ⟨P, hP⟩ : ∃ P : Nat, place sz ts = P := ⟨(place sz ts).toNat, by have := HPl.out.1; omega⟩
                        have hPl : P < dz.length := by have := HPl.out.2; omega
                        have HPP : Hid (place sz ts = P) := hP
                        clear hP
                        have hBu2 : Hid (Below w.heap.size w u) := HQ.out.1.2.2.2.trans (HUz.out.2.mono HQ.out.1.2.2.2.size)
                        obtain ⟨bd, od, rfl, hbd, hcD⟩ := (HI.out.2.1.below hBu2.out).at hPl
                        have cd := hcD P hPl
                        clear hcD
                        have HV : Hid (nth dz P = nth D k) := by show _ = _; rw [HV0.out]; unfold cel; rw [HPP.out, Int.toNat_natCast]
                        have Pa := HQ.out.1.1.go HUz.out.2
                        have Pb := HQ.out.1.2.1.go HUz.out.2
                        have P6 := Pa
                        have U6 := HQ.out.2.1.go HUz.out.2
                        have o6 := U6.c2
                        have d6 := P6.c2
                        have s6 := P6.c1
                        have hown6 := own_go hown HUz.out.2
                        have hsu : wr.heap.size ≤ u.heap.size := HUz.out.2.size
                        have hl4 := HF.out.1.2.2.2
                        have hkD : k ≤ D.length := by omega
                        go_wp2_with fail
                        refine anyT_begin 12 (fun w' => w'.cell? ⟨B, 2, none⟩ = some v ∧ w'.cell? ⟨w.heap.size, 2, none⟩ = some (.slice (some ⟨bd, od, none⟩) dz.length dc) ∧ w'.cell? ⟨w.heap.size, 1, none⟩ = some (.slice (some ⟨bs, os, none⟩) n sc) ∧ w'.cell? ⟨bd, od + P, none⟩ = some (.int .i64 (nth dz P))) 14 #[false, false, false, false, false, false, false, false, false, false, false, false, false, false] (by kernel_rfl) rfl rfl ?_
                        refine anyT_put 0 116 ?rv14 #[true, false, false, false, false, false, false, false, false, false, false, false, false, false] rfl rfl rfl (by kernel_rfl) (by kernel_rfl) (by kernel_rfl) (fun _ _ _ h => h) (by decide) ?ry14 (fun _ => ⟨o6, d6, s6, cd⟩) ?rm14
                        case ry14 => first | exact Or.inl ⟨by rfl, by intro w'; go_simp; first | done | rfl⟩
                        case rm14 =>
                        simp only [Act.put, List.setIfInBounds_toArray, List.set_cons_zero, List.set_cons_succ]
                        refine anyT_take 1 117 ?rv15 #[true, true, false, false, false, false, false, false, false, false, false, false, false, false] rfl rfl rfl (by kernel_rfl) (by kernel_rfl) (by kernel_rfl) (fun _ _ _ h => h) (by kernel_rfl) (by decide) (by kernel_rfl) ?ry15 (⟨o6, d6, s6, cd⟩) ?rm15
                        case ry15 => first | exact Or.inl ⟨by rfl, by intro w' hw'; (try dsimp only at hw'); go_simp; first | done | rfl⟩
                        case rm15 =>
                        simp only [Act.put, List.setIfInBounds_toArray, List.set_cons_zero, List.set_cons_succ]
                        refine anyT_put 2 118 ?rv16 #[true, true, true, false, false, false, false, false, false, false, false, false, false, false] rfl rfl rfl (by kernel_rfl) (by kernel_rfl) (by kernel_rfl) (fun _ _ _ h => h) (by decide) ?ry16 (fun _ => ⟨o6, d6, s6, cd⟩) ?rm16
                        case ry16 => first | exact Or.inl ⟨by rfl, by intro w'; go_simp; first | done | rfl⟩
                        case rm16 =>
                        simp only [Act.put, List.setIfInBounds_toArray, List.set_cons_zero, List.set_cons_succ]
                        refine anyT_take 3 119 ?rv17 #[true, true, true, true, false, false, false, false, false, false, false, false, false, false] rfl rfl rfl (by kernel_rfl) (by kernel_rfl) (by kernel_rfl) (fun _ _ _ h => h) (by kernel_rfl) (by decide) (by kernel_rfl) ?ry17 (⟨o6, d6, s6, cd⟩) ?rm17
                        case ry17 => first | exact Or.inl ⟨by rfl, by intro w' hw'; (try dsimp only at hw'); go_simp; first | done | rfl⟩
                        case rm17 =>
                        simp only [Act.put, List.setIfInBounds_toArray, List.set_cons_zero, List.set_cons_succ]
                        refine anyT_put 4 120 ?rv18 #[true, true, true, true, true, false, false, false, false, false, false, false, false, false] rfl rfl rfl (by kernel_rfl) (by kernel_rfl) (by kernel_rfl) (fun _ _ _ h => h) (by decide) ?ry18 (fun _ => ⟨o6, d6, s6, cd⟩) ?rm18
                        case ry18 => first | exact Or.inl ⟨by rfl, by intro w'; go_simp; first | done | rfl⟩
                        case rm18 =>
                        simp only [Act.put, List.setIfInBounds_toArray, List.set_cons_zero, List.set_cons_succ]
                        refine anyT_take 5 121 ?rv19 #[true, true, true, true, true, true, false, false, false, false, false, false, false, false] rfl rfl rfl (by kernel_rfl) (by kernel_rfl) (by kernel_rfl) (fun _ _ _ h => h) (by kernel_rfl) (by decide) (by kernel_rfl) ?ry19 (⟨o6, d6, s6, cd⟩) ?rm19
                        case ry19 => first | exact Or.inl ⟨by rfl, by intro w' hw'; (try dsimp only at hw'); go_simp; first | done | rfl⟩
                        case rm19 =>
                        simp only [Act.put, List.setIfInBounds_toArray, List.set_cons_zero, List.set_cons_succ]
                        refine anyT_put 6 122 ?rv20 #[true, true, true, true, true, true, true, false, false, false, false, false, false, false] rfl rfl rfl (by kernel_rfl) (by kernel_rfl) (by kernel_rfl) (fun _ _ _ h => h) (by decide) ?ry20 (fun _ => ⟨o6, d6, s6, cd⟩) ?rm20
                        case ry20 => first | exact Or.inl ⟨by rfl, by intro w'; go_simp; first | done | rfl⟩
                        case rm20 =>
                        simp only [Act.put, List.setIfInBounds_toArray, List.set_cons_zero, List.set_cons_succ]
                        refine anyT_one 7 #[true, true, true, true, true, true, true, true, false, false, false, false, false, false] (by kernel_rfl) rfl rfl (fun K hK => ?_)
                        go_simp
                        go_wp2_with (go_at_call 31; refine (where_nn (some ⟨bs, os, none⟩) sc sz n HN.out.1 (some ⟨b1, o1, none⟩) tc n ts htl.out P HPP.out (by have := HF.out.1.2.2.1; omega) HF.out.1.2.1 HTi.out u.heap.size u.drew ((HI.out.1.below hBu2.out).mono hBu2.out.size) HUz.out.1).mono ?_; rintro e w3 ⟨rfl, rfl⟩)
                        refine hK.out _ _ (fun _ => ⟨o6, d6, s6, cd⟩) ?_
                        clear hK K
                        refine anyT_put 8 124 ?rv22 #[true, true, true, true, true, true, true, true, true, false, false, false, false, false] rfl rfl rfl (by kernel_rfl) (by kernel_rfl) (by kernel_rfl) (fun _ _ _ h => h) (by decide) ?ry22 (fun _ => ⟨o6, d6, s6, cd⟩) ?rm22
                        case ry22 => first | exact Or.inl ⟨by rfl, by intro w'; go_simp; first | done | rfl⟩
                        case rm22 =>
                        simp only [Act.put, List.setIfInBounds_toArray, List.set_cons_zero, List.set_cons_succ]
                        refine anyT_take 9 125 ?rv23 #[true, true, true, true, true, true, true, true, true, true, false, false, false, false] rfl rfl rfl (by kernel_rfl) (by kernel_rfl) (by kernel_rfl) (fun _ _ _ h => h) (by kernel_rfl) (by decide) (by kernel_rfl) ?ry23 (⟨o6, d6, s6, cd⟩) ?rm23
                        case ry23 => first | exact Or.inl ⟨by rfl, by intro w' hw'; (try dsimp only at hw'); go_simp; first | done | rfl⟩
                        case rm23 =>
                        simp only [Act.put, List.setIfInBounds_toArray, List.set_cons_zero, List.set_cons_succ]
                        refine anyT_one 10 #[true, true, true, true, true, true, true, true, true, true, true, false, false, false] (by kernel_rfl) rfl rfl (fun K hK => ?_)
                        go_simp
                        have k0 := P6.al (.cells #[.int .i64 (nth dz P)] 3)
                        have k1 := U6.al (.cells #[.int .i64 (nth dz P)] 3)
                        have k2 : (u.alloc (.cells #[.int .i64 (nth dz P)] 3)).cell? ⟨bd, od + P, none⟩ = some (.int .i64 (nth dz P)) := (World.cell?_alloc_lt u _ ⟨bd, od + P, none⟩ (by have := hBu2.out.size; show bd < u.heap.size; omega)).trans cd
                        refine hK.out _ _ (fun _ => ⟨k1.c2, k0.c2, k0.c1, k2⟩) ?_
                        clear hK K
                        refine anyT_one 11 #[true, true, true, true, true, true, true, true, true, true, true, true, false, false] (by kernel_rfl) rfl rfl (fun K hK => ?_)
                        refine app_step 127 rfl rfl _ _ rfl _ v5.heap.size u.heap.size v (D.take k) (nth dz P) rfl rfl ((hown6.alloc _).drew) (heap_alloc_new u _) (by rw [take_lenR _ hkD]; omega) (by simp; omega) ?_
                        intro g1 gc1 w4 hown1 hB4
                        have P7 := k0.dr.bel hB4 (by omega)
                        have HO1 : Hid (Abx w4 B (.bool c) (.slice (some ⟨bt, ot, none⟩) n gc) v) := k1.dr.bel hB4 (by omega)
                        have x2 := HO1.out.c2
                        have xf := HO1.out.fr 2
                        have xd : w4.cell? ⟨bd, od + P, none⟩ = some (.int .i64 (nth dz P)) := (hB4.cell (p := ⟨bd, od + P, none⟩) (by show bd < _; omega)).trans k2
                        refine hK.out _ _ (fun _ => ⟨x2, P7.c2, P7.c1, xd⟩) ?_
                        clear hK K
                        simp only [Act.put, List.setIfInBounds_toArray, List.set_cons_zero, List.set_cons_succ]
                        refine anyT_one 12 #[true, true, true, true, true, true, true, true, true, true, true, true, true, false] (by kernel_rfl) rfl rfl (fun K hK => ?_)
                        go_simp
                        refine hK.out _ _ (fun h => absurd h (by decide)) ?_
                        clear hK K
                        refine anyT_one 13 #[true, true, true, true, true, true, true, true, true, true, true, true, true, true] (by kernel_rfl) rfl rfl (fun K hK => ?_)
                        go_simp
                        refine hK.out _ _ (fun h => absurd h (by decide)) ?_
                        clear hK K
                        refine anyT_done (by kernel_rfl) ?_
                        go_wp2_with fail
                        rw [HV.out, ← take_snoc D k (by omega), take_lenR D hkD] at hown1
                        have hz4 := hB4.size
                        simp at hz4
                        refine ⟨⟨k + 1, .slice (some ⟨g1, 0, none⟩) (k + 1) gc1, by omega, by go_num, ⟨?_, ?_, ?_, ?_⟩, HO1.out.s2 _, ?_, ?_, by simp [World.setCell]; omega⟩, by simp [intOf]; omega⟩
                        · exact ((Pa.al _).dr.bel hB4 (by omega)).ot (by show w.heap.size ≠ B; omega) _
                        · exact ((Pb.al _).dr.bel hB4 (by omega)).ot (by show w.heap.size + 1 ≠ B; omega) _
                        · exact (((HQ.out.1.2.2.1.go HUz.out.2).al _).dr.bel hB4 (by omega)).ot (by show (w.heap.size + 1 + 1) ≠ B; omega) _
                        · exact (((hBu2.out.alloc hBu2.out.size _).drew.trans (hB4.mono (by omega)))).setCell (p := ⟨B, 2, none⟩) (by show w.heap.size ≤ B; omega) _
                        · rw [take_lenR D (show k + 1 ≤ D.length by omega)]
                          exact ownsRow_setCell_below hown1 (by show B < v5.heap.size; omega) _
                        · exact (((((HQ.out.2.2.bel (HUz.out.2.mono hsx)).al (by omega) _).dr).bel hB4)).set 2 _
                      · have td : decide (i < T0) = false := by simp [hlt2]
                        obtain ⟨ts, hts⟩ : ∃ ts, ts = t.set xn (i - T0) := ⟨_, rfl⟩
                        have HTi : Hid (insB sz' ts = true) := by
                          have h := jn_right hxl HLR.out HOt.out HT.out.2.1 (by rw [HIx.out, HTU.out.1]; exact hlt2)
                          rw [HIx.out, HTU.out.1] at h
                          rw [hts]; exact h
                        have HV0 : Hid (nth D k = cel sz' dz' ts) := by show _ = _; rw [HDk.out]; unfold jnC; rw [HIx.out, HTU.out.1, if_neg hlt2, ← hts]
                        have htl : Hid (ts.length = n) := by show _ = _; rw [hts, List.length_set]; exact HT.out.2.2
                        have hw : IntKind.i64.wrap (i - T0) = i - T0 := IntWalk.i64_in _ (by omega)
                        clear hlt2
                        go_wp2_with fail
                        go_quiet (fail)
                        obtain ⟨u0, hu0⟩ : ∃ u0, u0 = w2.drewN nq := ⟨_, rfl⟩
                        rw [← hu0]
                        have ct2 : u0.cell? ⟨b1, o1 + xn, none⟩ = some (.int .i64 i) := by rw [hu0]; exact ct
                        have fT2 : u0.frozen? ⟨b1, o1 + xn, none⟩ = false := by rw [hu0]; exact fT
                        have cs2 : u0.cell? ⟨bs, os + xn, none⟩ = some (.int .i64 T0) := by rw [hu0]; exact cs
                        have p12 : u0.cell? ⟨w.heap.size, 1, none⟩ = some (.slice (some ⟨bs, os, none⟩) n sc) := by rw [hu0]; exact p1
                        obtain ⟨u, hu⟩ : ∃ u, u = (u0.setCell ⟨b1, o1 + xn, none⟩ (.int .i64 (i - T0))).drew := ⟨_, rfl⟩
                        have HUu : Hid (u = (u0.setCell ⟨b1, o1 + xn, none⟩ (.int .i64 (i - T0))).drew) := hu
                        have HUz : Hid (IsInts u.heap.size u (some ⟨b1, o1, none⟩) ts ∧ Below wr.heap.size wr u) := by
                          rw [hu, hts, hu0]
                          exact ⟨(NewInts.put (W := w2.drewN nq) HA1.out hxt (i - T0)).ints, ((bel_drewN HB3.out nq).setCell (p := ⟨b1, o1 + xn, none⟩) l1 _).drew⟩
                        clear hu hu0 hts cs ct fT p1
                        go_wp2_with fail
                        refine anyT_begin 10 (fun w' => w'.cell? ⟨b1, o1 + xn, none⟩ = some (.int .i64 i) ∧ w'.cell? ⟨w.heap.size, 1, none⟩ = some (.slice (some ⟨bs, os, none⟩) n sc) ∧ w'.cell? ⟨bs, os + xn, none⟩ = some (.int .i64 T0)) 12 #[false, false, false, false, false, false, false, false, false, false, false, false] (by kernel_rfl) rfl rfl ?_
                        refine anyT_put 0 129 ?rv28 #[true, false, false, false, false, false, false, false, false, false, false, false] rfl rfl rfl (by kernel_rfl) (by kernel_rfl) (by kernel_rfl) (fun _ _ _ h => h) (by decide) ?ry28 (fun _ => ⟨ct2, p12, cs2⟩) ?rm28
                        case ry28 => first | exact Or.inl ⟨by rfl, by intro w'; go_simp; first | done | rfl⟩
                        case rm28 =>
                        simp only [Act.put, List.setIfInBounds_toArray, List.set_cons_zero, List.set_cons_succ]
                        refine anyT_put 1 130 ?rv29 #[true, true, false, false, false, false, false, false, false, false, false, false] rfl rfl rfl (by kernel_rfl) (by kernel_rfl) (by kernel_rfl) (fun _ _ _ h => h) (by decide) ?ry29 (fun _ => ⟨ct2, p12, cs2⟩) ?rm29
                        case ry29 => first | exact Or.inl ⟨by rfl, by intro w'; go_simp; first | done | rfl⟩
                        case rm29 =>
                        simp only [Act.put, List.setIfInBounds_toArray, List.set_cons_zero, List.set_cons_succ]
                        refine anyT_put 2 131 ?rv30 #[true, true, true, false, false, false, false, false, false, false, false, false] rfl rfl rfl (by kernel_rfl) (by kernel_rfl) (by kernel_rfl) (fun _ _ _ h => h) (by decide) ?ry30 (fun _ => ⟨ct2, p12, cs2⟩) ?rm30
                        case ry30 => first | exact Or.inl ⟨by rfl, by intro w'; go_simp; first | done | rfl⟩
                        case rm30 =>
                        simp only [Act.put, List.setIfInBounds_toArray, List.set_cons_zero, List.set_cons_succ]
                        refine anyT_take 3 132 ?rv31 #[true, true, true, true, false, false, false, false, false, false, false, false] rfl rfl rfl (by kernel_rfl) (by kernel_rfl) (by kernel_rfl) (fun _ _ _ h => h) (by kernel_rfl) (by decide) (by kernel_rfl) ?ry31 (⟨ct2, p12, cs2⟩) ?rm31
                        case ry31 => first | exact Or.inl ⟨by rfl, by intro w' hw'; (try dsimp only at hw'); go_simp; first | done | rfl⟩
                        case rm31 =>
                        simp only [Act.put, List.setIfInBounds_toArray, List.set_cons_zero, List.set_cons_succ]
                        refine anyT_put 4 133 ?rv32 #[true, true, true, true, true, false, false, false, false, false, false, false] rfl rfl rfl (by kernel_rfl) (by kernel_rfl) (by kernel_rfl) (fun _ _ _ h => h) (by decide) ?ry32 (fun _ => ⟨ct2, p12, cs2⟩) ?rm32
                        case ry32 => first | exact Or.inl ⟨by rfl, by intro w'; go_simp; first | done | rfl⟩
                        case rm32 =>
                        simp only [Act.put, List.setIfInBounds_toArray, List.set_cons_zero, List.set_cons_succ]
                        refine anyT_take 5 134 ?rv33 #[true, true, true, true, true, true, false, false, false, false, false, false] rfl rfl rfl (by kernel_rfl) (by kernel_rfl) (by kernel_rfl) (fun _ _ _ h => h) (by kernel_rfl) (by decide) (by kernel_rfl) ?ry33 (⟨ct2, p12, cs2⟩) ?rm33
                        case ry33 => first | exact Or.inl ⟨by rfl, by intro w' hw'; (try dsimp only at hw'); go_simp; first | done | rfl⟩
                        case rm33 =>
                        simp only [Act.put, List.setIfInBounds_toArray, List.set_cons_zero, List.set_cons_succ]
                        refine anyT_put 6 135 ?rv34 #[true, true, true, true, true, true, true, false, false, false, false, false] rfl rfl rfl (by kernel_rfl) (by kernel_rfl) (by kernel_rfl) (fun _ _ _ h => h) (by decide) ?ry34 (fun _ => ⟨ct2, p12, cs2⟩) ?rm34
                        case ry34 => first | exact Or.inl ⟨by rfl, by intro w'; go_simp; first | done | rfl⟩
                        case rm34 =>
                        simp only [Act.put, List.setIfInBounds_toArray, List.set_cons_zero, List.set_cons_succ]
                        refine anyT_put 7 136 ?rv35 #[true, true, true, true, true, true, true, true, false, false, false, false] rfl rfl rfl (by kernel_rfl) (by kernel_rfl) (by kernel_rfl) (fun _ _ _ h => h) (by decide) ?ry35 (fun _ => ⟨ct2, p12, cs2⟩) ?rm35
                        case ry35 => first | exact Or.inl ⟨by rfl, by intro w'; go_simp; first | done | rfl⟩
                        case rm35 =>
                        simp only [Act.put, List.setIfInBounds_toArray, List.set_cons_zero, List.set_cons_succ]
                        refine anyT_take 8 137 ?rv36 #[true, true, true, true, true, true, true, true, true, false, false, false] rfl rfl rfl (by kernel_rfl) (by kernel_rfl) (by kernel_rfl) (fun _ _ _ h => h) (by kernel_rfl) (by decide) (by kernel_rfl) ?ry36 (⟨ct2, p12, cs2⟩) ?rm36
                        case ry36 => first | exact Or.inl ⟨by rfl, by intro w' hw'; (try dsimp only at hw'); go_simp; first | done | rfl⟩
                        case rm36 =>
                        simp only [Act.put, List.setIfInBounds_toArray, List.set_cons_zero, List.set_cons_succ]
                        refine anyT_put 9 138 ?rv37 #[true, true, true, true, true, true, true, true, true, true, false, false] rfl rfl rfl (by kernel_rfl) (by kernel_rfl) (by kernel_rfl) (fun _ _ _ h => h) (by decide) ?ry37 (fun _ => ⟨ct2, p12, cs2⟩) ?rm37
                        case ry37 => first | exact Or.inl ⟨by rfl, by intro w'; go_simp; first | done | rfl⟩
                        case rm37 =>
                        simp only [Act.put, List.setIfInBounds_toArray, List.set_cons_zero, List.set_cons_succ]
                        refine anyT_one 10 #[true, true, true, true, true, true, true, true, true, true, true, false] (by kernel_rfl) rfl rfl (fun K hK => ?_)
                        go_simp
                        refine hK.out _ _ (fun h => absurd h (by decide)) ?_
                        clear hK K
                        refine anyT_one 11 #[true, true, true, true, true, true, true, true, true, true, true, true] (by kernel_rfl) rfl rfl (fun K hK => ?_)
                        go_simp
                        refine hK.out _ _ (fun h => absurd h (by decide)) ?_
                        clear hK K
                        refine anyT_done (by kernel_rfl) ?_
                        rw [← HUu.out]
                        clear ct2 fT2 cs2 p12 hw
                        have HPl : Hid (0 ≤ place sz' ts ∧ place sz' ts < dz'.length) := by have := place_bd HTi.out; have h := (flawE_zero HF.out.2.1).2.1; exact ⟨this.1, by rw [h]; exact this.2⟩
                        obtain ⟨P, hP⟩ : ∃ P : Nat, place sz' ts = P := ⟨(place sz' ts).toNat, by have := HPl.out.1; omega⟩
                        have hPl : P < dz'.length := by have := HPl.out.2; omega
                        have HPP : Hid (place sz' ts = P) := hP
                        clear hP
                        have hBu2 : Hid (Below w.heap.size w u) := HQ.out.1.2.2.2.trans (HUz.out.2.mono HQ.out.1.2.2.2.size)
                        obtain ⟨bd, od, rfl, hbd, hcD⟩ := (HI.out.2.2.2.below hBu2.out).at hPl
                        have cd := hcD P hPl
                        clear hcD
                        have HV : Hid (nth dz' P = nth D k) := by show _ = _; rw [HV0.out]; unfold cel; rw [HPP.out, Int.toNat_natCast]
                        have Pa := HQ.out.1.1.go HUz.out.2
                        have Pb := HQ.out.1.2.1.go HUz.out.2
                        have P6 := Pb
                        have U6 := HQ.out.2.1.go HUz.out.2
                        have o6 := U6.c2
                        have d6 := P6.c2
                        have s6 := P6.c1
                        have hown6 := own_go hown HUz.out.2
                        have hsu : wr.heap.size ≤ u.heap.size := HUz.out.2.size
                        have hl4 := HF.out.2.2.2.2
                        have hkD : k ≤ D.length := by omega
                        go_wp2_with fail
                        refine anyT_begin 12 (fun w' => w'.cell? ⟨B, 2, none⟩ = some v ∧ w'.cell? ⟨(w.heap.size + 1), 2, none⟩ = some (.slice (some ⟨bd, od, none⟩) dz'.length dc') ∧ w'.cell? ⟨(w.heap.size + 1), 1, none⟩ = some (.slice (some ⟨bs', os', none⟩) n sc') ∧ w'.cell? ⟨bd, od + P, none⟩ = some (.int .i64 (nth dz' P))) 14 #[false, false, false, false, false, false, false, false, false, false, false, false, false, false] (by kernel_rfl) rfl rfl ?_
                        refine anyT_put 0 140 ?rv40 #[true, false, false, false, false, false, false, false, false, false, false, false, false, false] rfl rfl rfl (by kernel_rfl) (by kernel_rfl) (by kernel_rfl) (fun _ _ _ h => h) (by decide) ?ry40 (fun _ => ⟨o6, d6, s6, cd⟩) ?rm40
                        case ry40 => first | exact Or.inl ⟨by rfl, by intro w'; go_simp; first | done | rfl⟩
                        case rm40 =>
                        simp only [Act.put, List.setIfInBounds_toArray, List.set_cons_zero, List.set_cons_succ]
                        refine anyT_take 1 141 ?rv41 #[true, true, false, false, false, false, false, false, false, false, false, false, false, false] rfl rfl rfl (by kernel_rfl) (by kernel_rfl) (by kernel_rfl) (fun _ _ _ h => h) (by kernel_rfl) (by decide) (by kernel_rfl) ?ry41 (⟨o6, d6, s6, cd⟩) ?rm41
                        case ry41 => first | exact Or.inl ⟨by rfl, by intro w' hw'; (try dsimp only at hw'); go_simp; first | done | rfl⟩
                        case rm41 =>
                        simp only [Act.put, List.setIfInBounds_toArray, List.set_cons_zero, List.set_cons_succ]
                        refine anyT_put 2 142 ?rv42 #[true, true, true, false, false, false, false, false, false, false, false, false, false, false] rfl rfl rfl (by kernel_rfl) (by kernel_rfl) (by kernel_rfl) (fun _ _ _ h => h) (by decide) ?ry42 (fun _ => ⟨o6, d6, s6, cd⟩) ?rm42
                        case ry42 => first | exact Or.inl ⟨by rfl, by intro w'; go_simp; first | done | rfl⟩
                        case rm42 =>
                        simp only [Act.put, List.setIfInBounds_toArray, List.set_cons_zero, List.set_cons_succ]
                        refine anyT_take 3 143 ?rv43 #[true, true, true, true, false, false, false, false, false, false, false, false, false, false] rfl rfl rfl (by kernel_rfl) (by kernel_rfl) (by kernel_rfl) (fun _ _ _ h => h) (by kernel_rfl) (by decide) (by kernel_rfl) ?ry43 (⟨o6, d6, s6, cd⟩) ?rm43
                        case ry43 => first | exact Or.inl ⟨by rfl, by intro w' hw'; (try dsimp only at hw'); go_simp; first | done | rfl⟩
                        case rm43 =>
                        simp only [Act.put, List.setIfInBounds_toArray, List.set_cons_zero, List.set_cons_succ]
                        refine anyT_put 4 144 ?rv44 #[true, true, true, true, true, false, false, false, false, false, false, false, false, false] rfl rfl rfl (by kernel_rfl) (by kernel_rfl) (by kernel_rfl) (fun _ _ _ h => h) (by decide) ?ry44 (fun _ => ⟨o6, d6, s6, cd⟩) ?rm44
                        case ry44 => first | exact Or.inl ⟨by rfl, by intro w'; go_simp; first | done | rfl⟩
                        case rm44 =>
                        simp only [Act.put, List.setIfInBounds_toArray, List.set_cons_zero, List.set_cons_succ]
                        refine anyT_take 5 145 ?rv45 #[true, true, true, true, true, true, false, false, false, false, false, false, false, false] rfl rfl rfl (by kernel_rfl) (by kernel_rfl) (by kernel_rfl) (fun _ _ _ h => h) (by kernel_rfl) (by decide) (by kernel_rfl) ?ry45 (⟨o6, d6, s6, cd⟩) ?rm45
                        case ry45 => first | exact Or.inl ⟨by rfl, by intro w' hw'; (try dsimp only at hw'); go_simp; first | done | rfl⟩
                        case rm45 =>
                        simp only [Act.put, List.setIfInBounds_toArray, List.set_cons_zero, List.set_cons_succ]
                        refine anyT_put 6 146 ?rv46 #[true, true, true, true, true, true, true, false, false, false, false, false, false, false] rfl rfl rfl (by kernel_rfl) (by kernel_rfl) (by kernel_rfl) (fun _ _ _ h => h) (by decide) ?ry46 (fun _ => ⟨o6, d6, s6, cd⟩) ?rm46
                        case ry46 => first | exact Or.inl ⟨by rfl, by intro w'; go_simp; first | done | rfl⟩
                        case rm46 =>
                        simp only [Act.put, List.setIfInBounds_toArray, List.set_cons_zero, List.set_cons_succ]
                        refine anyT_one 7 #[true, true, true, true, true, true, true, true, false, false, false, false, false, false] (by kernel_rfl) rfl rfl (fun K hK => ?_)
                        go_simp
                        go_wp2_with (go_at_call 31; refine (where_nn (some ⟨bs', os', none⟩) sc' sz' n HN.out.2 (some ⟨b1, o1, none⟩) tc n ts htl.out P HPP.out (by have := HF.out.2.2.2.1; omega) HF.out.2.2.1 HTi.out u.heap.size u.drew ((HI.out.2.2.1.below hBu2.out).mono hBu2.out.size) HUz.out.1).mono ?_; rintro e w3 ⟨rfl, rfl⟩)
                        refine hK.out _ _ (fun _ => ⟨o6, d6, s6, cd⟩) ?_
                        clear hK K
                        refine anyT_put 8 148 ?rv48 #[true, true, true, true, true, true, true, true, true, false, false, false, false, false] rfl rfl rfl (by kernel_rfl) (by kernel_rfl) (by kernel_rfl) (fun _ _ _ h => h) (by decide) ?ry48 (fun _ => ⟨o6, d6, s6, cd⟩) ?rm48
                        case ry48 => first | exact Or.inl ⟨by rfl, by intro w'; go_simp; first | done | rfl⟩
                        case rm48 =>
                        simp only [Act.put, List.setIfInBounds_toArray, List.set_cons_zero, List.set_cons_succ]
                        refine anyT_take 9 149 ?rv49 #[true, true, true, true, true, true, true, true, true, true, false, false, false, false] rfl rfl rfl (by kernel_rfl) (by kernel_rfl) (by kernel_rfl) (fun _ _ _ h => h) (by kernel_rfl) (by decide) (by kernel_rfl) ?ry49 (⟨o6, d6, s6, cd⟩) ?rm49
                        case ry49 => first | exact Or.inl ⟨by rfl, by intro w' hw'; (try dsimp only at hw'); go_simp; first | done | rfl⟩
                        case rm49 =>
                        simp only [Act.put, List.setIfInBounds_toArray, List.set_cons_zero, List.set_cons_succ]
                        refine anyT_one 10 #[true, true, true, true, true, true, true, true, true, true, true, false, false, false] (by kernel_rfl) rfl rfl (fun K hK => ?_)
                        go_simp
                        have k0 := P6.al (.cells #[.int .i64 (nth dz' P)] 3)
                        have k1 := U6.al (.cells #[.int .i64 (nth dz' P)] 3)
                        have k2 : (u.alloc (.cells #[.int .i64 (nth dz' P)] 3)).cell? ⟨bd, od + P, none⟩ = some (.int .i64 (nth dz' P)) := (World.cell?_alloc_lt u _ ⟨bd, od + P, none⟩ (by have := hBu2.out.size; show bd < u.heap.size; omega)).trans cd
                        refine hK.out _ _ (fun _ => ⟨k1.c2, k0.c2, k0.c1, k2⟩) ?_
                        clear hK K
                        refine anyT_one 11 #[true, true, true, true, true, true, true, true, true, true, true, true, false, false] (by kernel_rfl) rfl rfl (fun K hK => ?_)
                        refine app_step 151 rfl rfl _ _ rfl _ v5.heap.size u.heap.size v (D.take k) (nth dz' P) rfl rfl ((hown6.alloc _).drew) (heap_alloc_new u _) (by rw [take_lenR _ hkD]; omega) (by simp; omega) ?_
                        intro g1 gc1 w4 hown1 hB4
                        have P7 := k0.dr.bel hB4 (by omega)
                        have HO1 : Hid (Abx w4 B (.bool c) (.slice (some ⟨bt, ot, none⟩) n gc) v) := k1.dr.bel hB4 (by omega)
                        have x2 := HO1.out.c2
                        have xf := HO1.out.fr 2
                        have xd : w4.cell? ⟨bd, od + P, none⟩ = some (.int .i64 (nth dz' P)) := (hB4.cell (p := ⟨bd, od + P, none⟩) (by show bd < _; omega)).trans k2
                        refine hK.out _ _ (fun _ => ⟨x2, P7.c2, P7.c1, xd⟩) ?_
                        clear hK K
                        simp only [Act.put, List.setIfInBounds_toArray, List.set_cons_zero, List.set_cons_succ]
                        refine anyT_one 12 #[true, true, true, true, true, true, true, true, true, true, true, true, true, false] (by kernel_rfl) rfl rfl (fun K hK => ?_)
                        go_simp
                        refine hK.out _ _ (fun h => absurd h (by decide)) ?_
                        clear hK K
                        refine anyT_one 13 #[true, true, true, true, true, true, true, true, true, true, true, true, true, true] (by kernel_rfl) rfl rfl (fun K hK => ?_)
                        go_simp
                        refine hK.out _ _ (fun h => absurd h (by decide)) ?_
                        clear hK K
                        refine anyT_done (by kernel_rfl) ?_
                        go_wp2_with fail
                        rw [HV.out, ← take_snoc D k (by omega), take_lenR D hkD] at hown1
                        have hz4 := hB4.size
                        simp at hz4
                        refine ⟨⟨k + 1, .slice (some ⟨g1, 0, none⟩) (k + 1) gc1, by omega, by go_num, ⟨?_, ?_, ?_, ?_⟩, HO1.out.s2 _, ?_, ?_, by simp [World.setCell]; omega⟩, by simp [intOf]; omega⟩
                        · exact ((Pa.al _).dr.bel hB4 (by omega)).ot (by show w.heap.size ≠ B; omega) _
                        · exact ((Pb.al _).dr.bel hB4 (by omega)).ot (by show w.heap.size + 1 ≠ B; omega) _
                        · exact (((HQ.out.1.2.2.1.go HUz.out.2).al _).dr.bel hB4 (by omega)).ot (by show (w.heap.size + 1 + 1) ≠ B; omega) _
                        · exact (((hBu2.out.alloc hBu2.out.size _).drew.trans (hB4.mono (by omega)))).setCell (p := ⟨B, 2, none⟩) (by show w.heap.size ≤ B; omega) _
                        · rw [take_lenR D (show k + 1 ≤ D.length by omega)]
                          exact ownsRow_setCell_below hown1 (by show B < v5.heap.size; omega) _
                        · exact (((((HQ.out.2.2.bel (HUz.out.2.mono hsx)).al (by omega) _).dr).bel hB4)).set 2 _
                    · obtain rfl : k = q := by omega
                      rw [List.take_of_length_le (by omega)] at hown
                      obtain ⟨g1, gc1, rfl, hN1⟩ := owns_new hown
                      obtain ⟨hA, hA', hR, hBx⟩ := hW3
                      have o0 := hU.c0
                      have o1 := hU.c1
                      have o2 := hU.c2
                      have r_0 := hR.c0
                      have r_1 := hR.c1
                      have r_2 := hR.c2
                      have f_0 := hR.fr 0
                      have f_1 := hR.fr 1
                      have f_2 := hR.fr 2
                      clear hown hlt
                      go_wp2_with fail
                      have FF := hR.set3 (.bool c) (.slice (some ⟨bt, ot, none⟩) n gc) (.slice g1 D.length gc1)
                      have q0' := FF.c0
                      have q1' := FF.c1
                      have q2' := FF.c2
                      refine bodyPost_ret (v := .tuple #[.agg #[.bool c, .slice (some ⟨bt, ot, none⟩) n gc, .slice g1 D.length gc1], .int .i64 0]) (by simp [results, Tryd.results13, go_sem, q0', q1', q2']) rfl ?_
                      have hX := ((hSp.new hsx).set3 (b := (w.heap.size + 1 + 1)) (by omega) (.bool c) (.slice (some ⟨bt, ot, none⟩) n gc) (.slice g1 D.length gc1)).low (lo' := w.heap.size) (by omega)
                      have hY := (hN1.set3 (b := (w.heap.size + 1 + 1)) (by omega) (.bool c) (.slice (some ⟨bt, ot, none⟩) n gc) (.slice g1 D.length gc1)).low (lo' := w.heap.size) (by omega)
                      have hZ := bel_set3 hBx (b := (w.heap.size + 1 + 1)) (by omega) (.bool c) (.slice (some ⟨bt, ot, none⟩) n gc) (.slice g1 D.length gc1)
                      have hUR := UR.ok (c := c) (xc := gc) (yc := gc1) HE.out hX hY hZ
                      have hE1 := HS.out
                      have hE2 := HD.out.1
                      obtain ⟨rfl, hE3⟩ := hE1
                      obtain rfl := hE2
                      rw [hE3] at hUR
                      exact hUR
                · have t0 : (errOf S != 0) = true := by simpa using hES
                  have HE : Hid (jnE xn c sz dz c sz' dz' = errOf S) := by show _ = _; unfold jnE; rw [if_neg (by simpa using HF.out.1.1), if_neg (by simpa using HF.out.2.1), if_neg (by simpa using HLR.out), if_neg HX.out, Int.toNat_natCast, if_neg (by rw [HOt.out]; decide), if_neg (by simp), HS.out.1]
                  have HES : Hid (errOf S ≠ 0) := hES
                  have hR4 := HW4.out.2.2.1.lt
                  clear hES
                  have r_0 := HW4.out.2.2.1.c0
                  have r_1 := HW4.out.2.2.1.c1
                  have r_2 := HW4.out.2.2.1.c2
                  have f_0 := HW4.out.2.2.1.fr 0
                  have f_1 := HW4.out.2.2.1.fr 1
                  have f_2 := HW4.out.2.2.1.fr 2
                  go_wp2_with fail
                  have FF := HW4.out.2.2.1.set3 (.bool false) (.slice none 0 0) (.slice none 0 0)
                  have q0 := FF.c0
                  have q1 := FF.c1
                  have q2 := FF.c2
                  exact bodyPost_ret (v := .tuple #[.agg #[.bool false, .slice none 0 0, .slice none 0 0], .int .i64 (errOf S)]) (by simp [results, Tryd.results13, go_sem, q0, q1, q2]) rfl (UR.no HE.out HES.out (bel_set3 HW4.out.2.2.2 (by omega) _ _ _))
              · have tc' : (c != c') = true := by simpa using hcc
                have HE : Hid (jnE xn c sz dz c' sz' dz' = 6) := by show _ = _; unfold jnE; rw [if_neg (by simpa using HF.out.1.1), if_neg (by simpa using HF.out.2.1), if_neg (by simpa using HLR.out), if_neg HX.out, Int.toNat_natCast, if_neg (by rw [HOt.out]; decide), if_pos hcc]
                have p0 := HW.out.1.c0
                have q0 := HW.out.2.1.c0
                have tc2 : (c == c') = false := by simpa using hcc
                clear hcc
                have r_0 := HW.out.2.2.1.c0
                have r_1 := HW.out.2.2.1.c1
                have r_2 := HW.out.2.2.1.c2
                have f_0 := HW.out.2.2.1.fr 0
                have f_1 := HW.out.2.2.1.fr 1
                have f_2 := HW.out.2.2.1.fr 2
                go_wp2_with fail
                have FF := HW.out.2.2.1.set3 (.bool false) (.slice none 0 0) (.slice none 0 0)
                have q0 := FF.c0
                have q1 := FF.c1
                have q2 := FF.c2
                exact bodyPost_ret (v := .tuple #[.agg #[.bool false, .slice none 0 0, .slice none 0 0], .int .i64 6]) (by simp [results, Tryd.results13, go_sem, q0, q1, q2]) rfl (UR.no HE.out (by decide) (bel_set3 HW.out.2.2.2 (by omega) _ _ _))
    · have tr : ((sz.length : Int) != (sz'.length : Int)) = true := by simp; omega
      have HE : Hid (jnE x c sz dz c' sz' dz' = 3) := by show _ = _; unfold jnE; rw [if_neg (by simpa using HF.out.1.1), if_neg (by simpa using HF.out.2.1), if_pos hlr]
      clear hlr
      have r_0 := HP.out.2.2.1.c0
      have r_1 := HP.out.2.2.1.c1
      have r_2 := HP.out.2.2.1.c2
      have f_0 := HP.out.2.2.1.fr 0
      have f_1 := HP.out.2.2.1.fr 1
      have f_2 := HP.out.2.2.1.fr 2
      go_wp2_with fail
      have FF := HP.out.2.2.1.set3 (.bool false) (.slice none 0 0) (.slice none 0 0)
      have q0 := FF.c0
      have q1 := FF.c1
      have q2 := FF.c2
      exact bodyPost_ret (v := .tuple #[.agg #[.bool false, .slice none 0 0, .slice none 0 0], .int .i64 3]) (by simp [results, Tryd.results13, go_sem, q0, q1, q2]) rfl (UR.no HE.out (by decide) (bel_set3 HP.out.2.2.2 (by omega) _ _ _))
  · have t0 : (flawsE c sz dz c' sz' dz' != 0) = true := by simpa using he
    have HE : Hid (jnE x c sz dz c' sz' dz' = flawsE c sz dz c' sz' dz') := by
      show _ = _
      unfold jnE flawsE at *
      by_cases hf : flawE c sz dz = 0
      · rw [if_pos hf] at he
        rw [if_neg (by simpa using hf), if_pos he, if_pos hf]
      · rw [if_pos hf, if_neg hf]
    have HA : Hid (flawsE c sz dz c' sz' dz' ≠ 0) := he
    clear he
    have r_0 := HP.out.2.2.1.c0
    have r_1 := HP.out.2.2.1.c1
    have r_2 := HP.out.2.2.1.c2
    have f_0 := HP.out.2.2.1.fr 0
    have f_1 := HP.out.2.2.1.fr 1
    have f_2 := HP.out.2.2.1.fr 2
    go_wp2_with fail
    have FF := HP.out.2.2.1.set3 (.bool false) (.slice none 0 0) (.slice none 0 0)
    have q0 := FF.c0
    have q1 := FF.c1
    have q2 := FF.c2
    exact bodyPost_ret (v := .tuple #[.agg #[.bool false, .slice none 0 0, .slice none 0 0], .int .i64 (flawsE c sz dz c' sz' dz')]) (by simp [results, Tryd.results13, go_sem, q0, q1, q2]) rfl (UR.no HE.out HA.out (bel_set3 HP.out.2.2.2 (by omega) _ _ _))
end Go.Proofs.YtldjgacnjogbnaaDoor
