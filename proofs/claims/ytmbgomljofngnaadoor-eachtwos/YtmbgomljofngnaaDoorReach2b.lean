/-
  What the reference makes of the cells at one place: shapes that go together or not, and the cells.
-/
import Derived.Test.YtmbgomljofngnaaDoorReach2a
namespace Go.Proofs.YtmbgomljofngnaaDoor
open Go.RowKit
set_option linter.unusedVariables false

set_option maxRecDepth 100000 in
set_option maxHeartbeats 8000000 in
theorem reach2_len (f : Int) (c : Bool) (sa : Option Addr) (sc : Nat) (sz : List Int) (da : Option Addr) (dc : Nat) (dz : List Int) (c' : Bool) (sa' : Option Addr) (sc' : Nat) (sz' : List Int) (da' : Option Addr) (dc' : Nat) (dz' : List Int)
    (h1 : sz.length ≤ 9223372036854775807) (h2 : dz.length ≤ 9223372036854775807) (h1' : sz'.length ≤ 9223372036854775807) (h2' : dz'.length ≤ 9223372036854775807) (w : World) (hs : IsInts w.heap.size w sa sz) (hd : IsInts w.heap.size w da dz) (hs' : IsInts w.heap.size w sa' sz') (hd' : IsInts w.heap.size w da' dz') (hlo : ¬ f < 1) (hhi : ¬ 16 < f) (G : Hid (flawsE c sz dz c' sz' dz' = 0)) (L : Hid (sz.length = sz'.length)) (R : Hid (sz.length ≠ 0 ∧ sz ≠ sz')) :
    Calls Tryd.prog 4 #[.int .i64 f, .agg #[.bool c, .slice sa sz.length sc, .slice da dz.length dc], .agg #[.bool c', .slice sa' sz'.length sc', .slice da' dz'.length dc']] w fun e w' => R2P f c sz dz c' sz' dz' w e w' := by
  have HI : Hid ((IsInts w.heap.size w sa sz ∧ IsInts w.heap.size w da dz) ∧ (IsInts w.heap.size w sa' sz' ∧ IsInts w.heap.size w da' dz')) := ⟨⟨hs, hd⟩, hs', hd'⟩
  clear hs hd hs' hd'
  have hb : Hid (Below w.heap.size w (((w.alloc (.cells #[.bool c, .slice sa sz.length sc, .slice da dz.length dc] 25)).alloc (.cells #[.bool c', .slice sa' sz'.length sc', .slice da' dz'.length dc'] 25)).alloc (.cells #[.bool false, .slice none 0 0, .slice none 0 0] 25))) := (((Below.refl _ w).alloc (Nat.le_refl _) _).alloc (by simp) _).alloc (by simp; omega) _
  have pa := ((Abx.new w (.bool c) (.slice sa sz.length sc) (.slice da dz.length dc)).al (.cells #[.bool c', .slice sa' sz'.length sc', .slice da' dz'.length dc'] 25)).al (.cells #[.bool false, .slice none 0 0, .slice none 0 0] 25)
  have pa_0 := pa.c0
  have pa_1 := pa.c1
  have pa_2 := pa.c2
  have pb := (Abx.new1 w (.cells #[.bool c, .slice sa sz.length sc, .slice da dz.length dc] 25) (.bool c') (.slice sa' sz'.length sc') (.slice da' dz'.length dc')).al (.cells #[.bool false, .slice none 0 0, .slice none 0 0] 25)
  have pb_0 := pb.c0
  have pb_1 := pb.c1
  have pb_2 := pb.c2
  have pr : Abx (((w.alloc (.cells #[.bool c, .slice sa sz.length sc, .slice da dz.length dc] 25)).alloc (.cells #[.bool c', .slice sa' sz'.length sc', .slice da' dz'.length dc'] 25)).alloc (.cells #[.bool false, .slice none 0 0, .slice none 0 0] 25)) (w.heap.size + 1 + 1) (.bool false) (.slice none 0 0) (.slice none 0 0) := by
    have := Abx.new1 (w.alloc (.cells #[.bool c, .slice sa sz.length sc, .slice da dz.length dc] 25)) (.cells #[.bool c', .slice sa' sz'.length sc', .slice da' dz'.length dc'] 25) (.bool false) (.slice none 0 0) (.slice none 0 0)
    rwa [World.size_alloc] at this
  go_enter Tryd.func4, Tryd.ntmps4
  go_wp2_with fail
  refine (flaws_any c c' sa sc sz da dc dz sa' sc' sz' da' dc' dz' h1 h2 h1' h2' _ ((HI.out.1.1.below hb.out).mono hb.out.size) ((HI.out.1.2.below hb.out).mono hb.out.size) ((HI.out.2.1.below hb.out).mono hb.out.size) ((HI.out.2.2.below hb.out).mono hb.out.size)).mono ?_
  rintro e v1 ⟨rfl, hB⟩
  replace hb : Hid (Below w.heap.size w v1) := hb.out.trans (hB.mono hb.out.size)
  replace pa := pa.go hB
  replace pb := pb.go hB
  replace pr := pr.go hB
  replace pa_0 := pa.c0
  replace pa_1 := pa.c1
  replace pa_2 := pa.c2
  replace pb_0 := pb.c0
  replace pb_1 := pb.c1
  replace pb_2 := pb.c2
  clear hB
  rw [G.out]
  have t1 : ((sz.length : Int) == 0) = false := by rw [beq_eq_false_iff_ne]; have := R.out.1; omega
  have t2 : (0 : Int) < (sz'.length : Int) := by have := L.out; have := R.out.1; omega
  have t3 : ((sz.length : Int) != (sz'.length : Int)) = false := by rw [bne_eq_false_iff_eq]; have := L.out; omega
  go_wp2_with fail
  go_loopw [10] (fun i wr => ∃ k : Nat, k ≤ sz.length ∧ i = .int .i64 k ∧ Hid (∀ j, j < k → nth sz j = nth sz' j) ∧ ∃ m, wr = v1.drewN m) (fun i _ => sz.length - (intOf i).toNat)
  case atStart => exact ⟨0, Nat.zero_le _, rfl, (fun j hj => by omega), 0, rfl⟩
  case round =>
    obtain ⟨k, hk, rfl, HA, m, rfl⟩ := hrel
    by_cases hlt : k < sz.length
    · have hlt' : k < sz'.length := by have := L.out; omega
      obtain ⟨b, off, hsa, hb1, hcell⟩ := ((HI.out.1.1.below hb.out)).at hlt
      obtain ⟨b', off', hsa', hb2, hcell'⟩ := ((HI.out.2.1.below hb.out)).at hlt'
      have hc := hcell k hlt
      have hc' := hcell' k hlt'
      clear hcell hcell'
      subst hsa hsa'
      by_cases he : nth sz k = nth sz' k
      · have tn : (nth sz k != nth sz' k) = false := by simp [he]
        have HE : Hid (nth sz k = nth sz' k) := he
        clear he
        go_wp2_with fail
        go_quiet (fail)
        go_wp2
        go_roundw
        case rel => exact ⟨k + 1, by omega, by go_num, allN HA.out HE.out, _, rfl⟩
        case measure => simp [intOf]; omega
      · have tn : (nth sz k != nth sz' k) = true := by simp [he]
        clear he
        have hbm : Below w.heap.size w (v1.drewN m) := bel_drewN hb.out m
        have prm : ∀ q, Abx (v1.drewN q) (w.heap.size + 1 + 1) (.bool false) (.slice none 0 0) (.slice none 0 0) := fun q => pr
        go_wp2_with fail
        go_quiet (fail)
        have r_0 := (prm (m + nq)).c0
        have r_1 := (prm (m + nq)).c1
        have r_2 := (prm (m + nq)).c2
        have f_0 := (prm (m + nq)).fr 0
        have f_1 := (prm (m + nq)).fr 1
        have f_2 := (prm (m + nq)).fr 2
        rw [World.drewN_drewN]
        go_wp2_with fail
        have FF := (prm (m + nq)).set3 (.bool false) (.slice none 0 0) (.slice none 0 0)
        have q0 := FF.c0
        have q1 := FF.c1
        have q2 := FF.c2
        exact bodyPost_ret (v := .tuple #[.agg #[.bool false, .slice none 0 0, .slice none 0 0], .int .i64 4]) (by simp [results, Tryd.results4, go_sem, q0, q1, q2]) rfl (R2P.no (e2E_len (by omega) G.out L.out R.out) (by decide) (bel_set3 (bel_drewN hb.out _) (by omega) _ _ _))
    · obtain rfl : k = sz.length := by omega
      exact absurd (nth_ext L.out HA.out) R.out.2
set_option maxRecDepth 100000 in
set_option maxHeartbeats 8000000 in
theorem reach2_char (f : Int) (c : Bool) (sa : Option Addr) (sc : Nat) (sz : List Int) (da : Option Addr) (dc : Nat) (dz : List Int) (c' : Bool) (sa' : Option Addr) (sc' : Nat) (sz' : List Int) (da' : Option Addr) (dc' : Nat) (dz' : List Int)
    (h1 : sz.length ≤ 9223372036854775807) (h2 : dz.length ≤ 9223372036854775807) (h1' : sz'.length ≤ 9223372036854775807) (h2' : dz'.length ≤ 9223372036854775807) (w : World) (hs : IsInts w.heap.size w sa sz) (hd : IsInts w.heap.size w da dz) (hs' : IsInts w.heap.size w sa' sz') (hd' : IsInts w.heap.size w da' dz') (hlo : ¬ f < 1) (hhi : ¬ 16 < f) (G : Hid (flawsE c sz dz c' sz' dz' = 0)) (E : Hid (sz.length = 0 ∨ sz'.length = 0 ∨ sz = sz')) (K : Hid ((c = true ∨ c' = true) ∧ f ≠ 8 ∧ f ≠ 9)) :
    Calls Tryd.prog 4 #[.int .i64 f, .agg #[.bool c, .slice sa sz.length sc, .slice da dz.length dc], .agg #[.bool c', .slice sa' sz'.length sc', .slice da' dz'.length dc']] w fun e w' => R2P f c sz dz c' sz' dz' w e w' := by
  have HI : Hid ((IsInts w.heap.size w sa sz ∧ IsInts w.heap.size w da dz) ∧ (IsInts w.heap.size w sa' sz' ∧ IsInts w.heap.size w da' dz')) := ⟨⟨hs, hd⟩, hs', hd'⟩
  clear hs hd hs' hd'
  have hb : Hid (Below w.heap.size w (((w.alloc (.cells #[.bool c, .slice sa sz.length sc, .slice da dz.length dc] 25)).alloc (.cells #[.bool c', .slice sa' sz'.length sc', .slice da' dz'.length dc'] 25)).alloc (.cells #[.bool false, .slice none 0 0, .slice none 0 0] 25))) := (((Below.refl _ w).alloc (Nat.le_refl _) _).alloc (by simp) _).alloc (by simp; omega) _
  have pa := ((Abx.new w (.bool c) (.slice sa sz.length sc) (.slice da dz.length dc)).al (.cells #[.bool c', .slice sa' sz'.length sc', .slice da' dz'.length dc'] 25)).al (.cells #[.bool false, .slice none 0 0, .slice none 0 0] 25)
  have pa_0 := pa.c0
  have pa_1 := pa.c1
  have pa_2 := pa.c2
  have pb := (Abx.new1 w (.cells #[.bool c, .slice sa sz.length sc, .slice da dz.length dc] 25) (.bool c') (.slice sa' sz'.length sc') (.slice da' dz'.length dc')).al (.cells #[.bool false, .slice none 0 0, .slice none 0 0] 25)
  have pb_0 := pb.c0
  have pb_1 := pb.c1
  have pb_2 := pb.c2
  have pr : Abx (((w.alloc (.cells #[.bool c, .slice sa sz.length sc, .slice da dz.length dc] 25)).alloc (.cells #[.bool c', .slice sa' sz'.length sc', .slice da' dz'.length dc'] 25)).alloc (.cells #[.bool false, .slice none 0 0, .slice none 0 0] 25)) (w.heap.size + 1 + 1) (.bool false) (.slice none 0 0) (.slice none 0 0) := by
    have := Abx.new1 (w.alloc (.cells #[.bool c, .slice sa sz.length sc, .slice da dz.length dc] 25)) (.cells #[.bool c', .slice sa' sz'.length sc', .slice da' dz'.length dc'] 25) (.bool false) (.slice none 0 0) (.slice none 0 0)
    rwa [World.size_alloc] at this
  go_enter Tryd.func4, Tryd.ntmps4
  go_wp2_with fail
  refine (flaws_any c c' sa sc sz da dc dz sa' sc' sz' da' dc' dz' h1 h2 h1' h2' _ ((HI.out.1.1.below hb.out).mono hb.out.size) ((HI.out.1.2.below hb.out).mono hb.out.size) ((HI.out.2.1.below hb.out).mono hb.out.size) ((HI.out.2.2.below hb.out).mono hb.out.size)).mono ?_
  rintro e v1 ⟨rfl, hB⟩
  replace hb : Hid (Below w.heap.size w v1) := hb.out.trans (hB.mono hb.out.size)
  replace pa := pa.go hB
  replace pb := pb.go hB
  replace pr := pr.go hB
  replace pa_0 := pa.c0
  replace pa_1 := pa.c1
  replace pa_2 := pa.c2
  replace pb_0 := pb.c0
  replace pb_1 := pb.c1
  replace pb_2 := pb.c2
  clear hB
  rw [G.out]
  have la := pa.lt
  have lb := pb.lt
  have lr := pr.lt
  have ls := hb.out.size
  have HSH : Hid (sz.length = 0 ∨ sz'.length = 0 ∨ sz = sz') := E.out
  have hb0 : (decide ((0 : Int) < (sz'.length : Int)) = true) ∨ sz'.length = 0 := by
    by_cases q : sz'.length = 0
    · exact .inr q
    · left; rw [decide_eq_true_iff]; omega
  obtain ⟨z0, hz0⟩ : ∃ z0 : Bool, z0 = ((sz.length : Int) == 0) := ⟨_, rfl⟩
  have HZ0 : Hid (z0 = ((sz.length : Int) == 0)) := hz0
  have hz0' := hz0.symm
  clear hz0 hb0
  go_upto_if 35 with fail
  go_cut [9] (fun s9 wc => (∃ Sa Sc, s9 = .slice Sa (shp sz sz').length Sc ∧ IsInts w.heap.size w Sa (shp sz sz')) ∧ ∃ m, wc = v1.drewN m)
  case first =>
    cases z0
    · have hz : ¬ sz.length = 0 := fun q => by have := HZ0.out; rw [q] at this; cases this
      have hE : shp sz sz' = sz := by unfold shp; rw [if_neg hz]
      have HS : Hid (shp sz sz' = sz ∧ IsInts w.heap.size w sa sz) := ⟨hE, HI.out.1.1⟩
      clear hE
      by_cases hq : sz'.length = 0
      · have t2 : ¬ (0 : Int) < (sz'.length : Int) := by omega
        clear hq hz
        go_wp2_with fail
        go_meet
        exact ⟨⟨sa, sc, by rw [HS.out.1], by rw [HS.out.1]; exact HS.out.2⟩, 0, rfl⟩
      · have L : Hid (sz = sz') := (HSH.out.resolve_left hz).resolve_left hq
        have t2 : (0 : Int) < (sz'.length : Int) := by omega
        have t3 : ((sz.length : Int) != (sz'.length : Int)) = false := by rw [bne_eq_false_iff_eq, L.out]
        clear hq hz
        go_wp2_with fail
        go_loopw [10] (fun i wr => ∃ k : Nat, k ≤ sz.length ∧ i = .int .i64 k ∧ ∃ m, wr = v1.drewN m) (fun i _ => sz.length - (intOf i).toNat)
        case atStart => exact ⟨0, Nat.zero_le _, rfl, 0, rfl⟩
        case round =>
          obtain ⟨k, hk, rfl, m, rfl⟩ := hrel
          by_cases hlt : k < sz.length
          · have hlt' : k < sz'.length := by rw [← L.out]; exact hlt
            obtain ⟨b, off, hsa, hb1, hcell⟩ := ((HI.out.1.1.below hb.out)).at hlt
            obtain ⟨b', off', hsa', hb2, hcell'⟩ := ((HI.out.2.1.below hb.out)).at hlt'
            have hc := hcell k hlt
            have hc' := hcell' k hlt'
            clear hcell hcell'
            subst hsa hsa'
            have tn : (nth sz k != nth sz' k) = false := by rw [L.out]; simp
            go_wp2_with fail
            go_quiet (fail)
            go_wp2
            go_roundw
            case rel => exact ⟨k + 1, by omega, by go_num, _, rfl⟩
            case measure => simp [intOf]; omega
          · go_wp2_with fail
            go_meet
            exact ⟨⟨sa, sc, by rw [HS.out.1], by rw [HS.out.1]; exact HS.out.2⟩, m, rfl⟩
    · have hz : sz.length = 0 := by have := HZ0.out.symm; rw [beq_iff_eq] at this; omega
      have hE : shp sz sz' = sz' := by unfold shp; rw [if_pos hz]
      have HS : Hid (shp sz sz' = sz' ∧ IsInts w.heap.size w sa' sz') := ⟨hE, HI.out.2.1⟩
      clear hz hE
      go_wp2_with fail
      go_meet
      exact ⟨⟨sa', sc', by rw [HS.out.1], by rw [HS.out.1]; exact HS.out.2⟩, 0, rfl⟩
  case rest =>
    clear hz0'
    obtain ⟨⟨Sa, Sc, rfl, hSa⟩, m, rfl⟩ := hcut
    have hbu : Hid (Below w.heap.size w (v1.drewN m)) := bel_drewN hb.out m
    have pau : Abx (v1.drewN m) w.heap.size (.bool c) (.slice sa sz.length sc) (.slice da dz.length dc) := pa
    have pbu : Abx (v1.drewN m) (w.heap.size + 1) (.bool c') (.slice sa' sz'.length sc') (.slice da' dz'.length dc') := pb
    have pru : Abx (v1.drewN m) (w.heap.size + 1 + 1) (.bool false) (.slice none 0 0) (.slice none 0 0) := pr
    clear hb pa pb pr pa_0 pa_1 pa_2 pb_0 pb_1 pb_2 la lb lr ls
    generalize v1.drewN m = u at hbu pau pbu pru ⊢
    have a0 := pau.c0
    have b0 := pbu.c0
    have hch := K.out.1
    have HD : Hid (decide (f = 8 ∨ f = 9) = false) := decide_eq_false (by have := K.out.2; omega)
    have HE' : Hid (e2E f c sz dz c' sz' dz' = 6) := e2E_char (by omega) G.out E.out K.out
    have lw := hbu.out.size
    have r_0 := pru.c0
    have r_1 := pru.c1
    have r_2 := pru.c2
    have f_0 := pru.fr 0
    have f_1 := pru.fr 1
    have f_2 := pru.fr 2
    have FF := pru.set3 (.bool false) (.slice none 0 0) (.slice none 0 0)
    cases c
    · cases c'
      · rcases hch with q | q <;> cases q
      · clear hch
        go_wp2_with (go_at_call 9; refine (compares_any f u).mono ?_; rintro e u1 ⟨rfl, hu1⟩; subst hu1; rw [HD.out])
        have q0 := FF.c0
        have q1 := FF.c1
        have q2 := FF.c2
        refine bodyPost_ret (v := .tuple #[.agg #[.bool false, .slice none 0 0, .slice none 0 0], .int .i64 6]) ?_ rfl (R2P.no HE'.out (by decide) (bel_set3 hbu.out (by omega) _ _ _))
        simp [results, Tryd.results4, go_sem, q0, q1, q2]
    · clear hch
      go_wp2_with (go_at_call 9; refine (compares_any f u).mono ?_; rintro e u1 ⟨rfl, hu1⟩; subst hu1; rw [HD.out])
      have q0 := FF.c0
      have q1 := FF.c1
      have q2 := FF.c2
      refine bodyPost_ret (v := .tuple #[.agg #[.bool false, .slice none 0 0, .slice none 0 0], .int .i64 6]) ?_ rfl (R2P.no HE'.out (by decide) (bel_set3 hbu.out (by omega) _ _ _))
      simp [results, Tryd.results4, go_sem, q0, q1, q2]
set_option maxRecDepth 100000 in
set_option maxHeartbeats 8000000 in
theorem reach2_main (f : Int) (c : Bool) (sa : Option Addr) (sc : Nat) (sz : List Int) (da : Option Addr) (dc : Nat) (dz : List Int) (c' : Bool) (sa' : Option Addr) (sc' : Nat) (sz' : List Int) (da' : Option Addr) (dc' : Nat) (dz' : List Int)
    (h1 : sz.length ≤ 9223372036854775807) (h2 : dz.length ≤ 9223372036854775807) (h1' : sz'.length ≤ 9223372036854775807) (h2' : dz'.length ≤ 9223372036854775807) (w : World) (hs : IsInts w.heap.size w sa sz) (hd : IsInts w.heap.size w da dz) (hs' : IsInts w.heap.size w sa' sz') (hd' : IsInts w.heap.size w da' dz') (hlo : ¬ f < 1) (hhi : ¬ 16 < f) (G : Hid (flawsE c sz dz c' sz' dz' = 0)) (E : Hid (e2F f c sz dz c' sz' dz' = 0)) (T : Hid ((∀ j, In64 (nth dz j)) ∧ ∀ j, In64 (nth dz' j))) :
    Calls Tryd.prog 4 #[.int .i64 f, .agg #[.bool c, .slice sa sz.length sc, .slice da dz.length dc], .agg #[.bool c', .slice sa' sz'.length sc', .slice da' dz'.length dc']] w fun e w' => R2P f c sz dz c' sz' dz' w e w' := by
  have HI : Hid ((IsInts w.heap.size w sa sz ∧ IsInts w.heap.size w da dz) ∧ (IsInts w.heap.size w sa' sz' ∧ IsInts w.heap.size w da' dz')) := ⟨⟨hs, hd⟩, hs', hd'⟩
  clear hs hd hs' hd'
  have hb : Hid (Below w.heap.size w (((w.alloc (.cells #[.bool c, .slice sa sz.length sc, .slice da dz.length dc] 25)).alloc (.cells #[.bool c', .slice sa' sz'.length sc', .slice da' dz'.length dc'] 25)).alloc (.cells #[.bool false, .slice none 0 0, .slice none 0 0] 25))) := (((Below.refl _ w).alloc (Nat.le_refl _) _).alloc (by simp) _).alloc (by simp; omega) _
  have pa := ((Abx.new w (.bool c) (.slice sa sz.length sc) (.slice da dz.length dc)).al (.cells #[.bool c', .slice sa' sz'.length sc', .slice da' dz'.length dc'] 25)).al (.cells #[.bool false, .slice none 0 0, .slice none 0 0] 25)
  have pa_0 := pa.c0
  have pa_1 := pa.c1
  have pa_2 := pa.c2
  have pb := (Abx.new1 w (.cells #[.bool c, .slice sa sz.length sc, .slice da dz.length dc] 25) (.bool c') (.slice sa' sz'.length sc') (.slice da' dz'.length dc')).al (.cells #[.bool false, .slice none 0 0, .slice none 0 0] 25)
  have pb_0 := pb.c0
  have pb_1 := pb.c1
  have pb_2 := pb.c2
  have pr : Abx (((w.alloc (.cells #[.bool c, .slice sa sz.length sc, .slice da dz.length dc] 25)).alloc (.cells #[.bool c', .slice sa' sz'.length sc', .slice da' dz'.length dc'] 25)).alloc (.cells #[.bool false, .slice none 0 0, .slice none 0 0] 25)) (w.heap.size + 1 + 1) (.bool false) (.slice none 0 0) (.slice none 0 0) := by
    have := Abx.new1 (w.alloc (.cells #[.bool c, .slice sa sz.length sc, .slice da dz.length dc] 25)) (.cells #[.bool c', .slice sa' sz'.length sc', .slice da' dz'.length dc'] 25) (.bool false) (.slice none 0 0) (.slice none 0 0)
    rwa [World.size_alloc] at this
  go_enter Tryd.func4, Tryd.ntmps4
  go_wp2_with fail
  refine (flaws_any c c' sa sc sz da dc dz sa' sc' sz' da' dc' dz' h1 h2 h1' h2' _ ((HI.out.1.1.below hb.out).mono hb.out.size) ((HI.out.1.2.below hb.out).mono hb.out.size) ((HI.out.2.1.below hb.out).mono hb.out.size) ((HI.out.2.2.below hb.out).mono hb.out.size)).mono ?_
  rintro e v1 ⟨rfl, hB⟩
  replace hb : Hid (Below w.heap.size w v1) := hb.out.trans (hB.mono hb.out.size)
  replace pa := pa.go hB
  replace pb := pb.go hB
  replace pr := pr.go hB
  replace pa_0 := pa.c0
  replace pa_1 := pa.c1
  replace pa_2 := pa.c2
  replace pb_0 := pb.c0
  replace pb_1 := pb.c1
  replace pb_2 := pb.c2
  clear hB
  rw [G.out]
  have la := pa.lt
  have lb := pb.lt
  have lr := pr.lt
  have ls := hb.out.size
  have HSH : Hid (sz.length = 0 ∨ sz'.length = 0 ∨ sz = sz') := (e2F_zero.1 E.out).2.2.2.1
  have hb0 : (decide ((0 : Int) < (sz'.length : Int)) = true) ∨ sz'.length = 0 := by
    by_cases q : sz'.length = 0
    · exact .inr q
    · left; rw [decide_eq_true_iff]; omega
  obtain ⟨z0, hz0⟩ : ∃ z0 : Bool, z0 = ((sz.length : Int) == 0) := ⟨_, rfl⟩
  have HZ0 : Hid (z0 = ((sz.length : Int) == 0)) := hz0
  have hz0' := hz0.symm
  clear hz0 hb0
  go_upto_if 35 with fail
  go_cut [9] (fun s9 wc => (∃ Sa Sc, s9 = .slice Sa (shp sz sz').length Sc ∧ IsInts w.heap.size w Sa (shp sz sz')) ∧ ∃ m, wc = v1.drewN m)
  case first =>
    cases z0
    · have hz : ¬ sz.length = 0 := fun q => by have := HZ0.out; rw [q] at this; cases this
      have hE : shp sz sz' = sz := by unfold shp; rw [if_neg hz]
      have HS : Hid (shp sz sz' = sz ∧ IsInts w.heap.size w sa sz) := ⟨hE, HI.out.1.1⟩
      clear hE
      by_cases hq : sz'.length = 0
      · have t2 : ¬ (0 : Int) < (sz'.length : Int) := by omega
        clear hq hz
        go_wp2_with fail
        go_meet
        exact ⟨⟨sa, sc, by rw [HS.out.1], by rw [HS.out.1]; exact HS.out.2⟩, 0, rfl⟩
      · have L : Hid (sz = sz') := (HSH.out.resolve_left hz).resolve_left hq
        have t2 : (0 : Int) < (sz'.length : Int) := by omega
        have t3 : ((sz.length : Int) != (sz'.length : Int)) = false := by rw [bne_eq_false_iff_eq, L.out]
        clear hq hz
        go_wp2_with fail
        go_loopw [10] (fun i wr => ∃ k : Nat, k ≤ sz.length ∧ i = .int .i64 k ∧ ∃ m, wr = v1.drewN m) (fun i _ => sz.length - (intOf i).toNat)
        case atStart => exact ⟨0, Nat.zero_le _, rfl, 0, rfl⟩
        case round =>
          obtain ⟨k, hk, rfl, m, rfl⟩ := hrel
          by_cases hlt : k < sz.length
          · have hlt' : k < sz'.length := by rw [← L.out]; exact hlt
            obtain ⟨b, off, hsa, hb1, hcell⟩ := ((HI.out.1.1.below hb.out)).at hlt
            obtain ⟨b', off', hsa', hb2, hcell'⟩ := ((HI.out.2.1.below hb.out)).at hlt'
            have hc := hcell k hlt
            have hc' := hcell' k hlt'
            clear hcell hcell'
            subst hsa hsa'
            have tn : (nth sz k != nth sz' k) = false := by rw [L.out]; simp
            go_wp2_with fail
            go_quiet (fail)
            go_wp2
            go_roundw
            case rel => exact ⟨k + 1, by omega, by go_num, _, rfl⟩
            case measure => simp [intOf]; omega
          · go_wp2_with fail
            go_meet
            exact ⟨⟨sa, sc, by rw [HS.out.1], by rw [HS.out.1]; exact HS.out.2⟩, m, rfl⟩
    · have hz : sz.length = 0 := by have := HZ0.out.symm; rw [beq_iff_eq] at this; omega
      have hE : shp sz sz' = sz' := by unfold shp; rw [if_pos hz]
      have HS : Hid (shp sz sz' = sz' ∧ IsInts w.heap.size w sa' sz') := ⟨hE, HI.out.2.1⟩
      clear hz hE
      go_wp2_with fail
      go_meet
      exact ⟨⟨sa', sc', by rw [HS.out.1], by rw [HS.out.1]; exact HS.out.2⟩, 0, rfl⟩
  case rest =>
    clear hz0'
    obtain ⟨⟨Sa, Sc, rfl, hSa⟩, m, rfl⟩ := hcut
    have hbu : Hid (Below w.heap.size w (v1.drewN m)) := bel_drewN hb.out m
    have pau : Abx (v1.drewN m) w.heap.size (.bool c) (.slice sa sz.length sc) (.slice da dz.length dc) := pa
    have pbu : Abx (v1.drewN m) (w.heap.size + 1) (.bool c') (.slice sa' sz'.length sc') (.slice da' dz'.length dc') := pb
    have pru : Abx (v1.drewN m) (w.heap.size + 1 + 1) (.bool false) (.slice none 0 0) (.slice none 0 0) := pr
    clear hb pa pb pr pa_0 pa_1 pa_2 pb_0 pb_1 pb_2 la lb lr ls
    generalize v1.drewN m = u at hbu pau pbu pru ⊢
    have a0 := pau.c0
    have b0 := pbu.c0
    go_upto_region 17 with fail
    go_cut [79] (fun s79 wc => s79 = .bool false ∧ wc = u)
    case first =>
      have hok := (e2F_zero.1 E.out).2.2.2.2
      cases c
      · cases c'
        · clear hok
          go_wp2_with fail
          go_meet
          exact ⟨rfl, rfl⟩
        · have h89 : f = 8 ∨ f = 9 := by
            by_cases q8 : f = 8
            · exact .inl q8
            · by_cases q9 : f = 9
              · exact .inr q9
              · exact absurd ⟨.inr rfl, q8, q9⟩ hok
          have HD : Hid (decide (f = 8 ∨ f = 9) = true) := decide_eq_true h89
          clear hok h89
          go_wp2_with (go_at_call 9; refine (compares_any f u).mono ?_; rintro e u1 ⟨rfl, hu1⟩; subst hu1; rw [HD.out])
          go_meet
          exact ⟨rfl, rfl⟩
      · have h89 : f = 8 ∨ f = 9 := by
          by_cases q8 : f = 8
          · exact .inl q8
          · by_cases q9 : f = 9
            · exact .inr q9
            · exact absurd ⟨.inl rfl, q8, q9⟩ hok
        have HD : Hid (decide (f = 8 ∨ f = 9) = true) := decide_eq_true h89
        clear hok h89
        go_wp2_with (go_at_call 9; refine (compares_any f u).mono ?_; rintro e u1 ⟨rfl, hu1⟩; subst hu1; rw [HD.out])
        go_meet
        exact ⟨rfl, rfl⟩
    case rest =>
      obtain ⟨rfl, rfl⟩ := hcut
      have hn := shp_ok E.out
      have hz6 := (errOf_zero.1 hn.1).1
      have HV : Hid ((e2V f c sz dz c' sz' dz').length = e2N sz sz' ∧ (cyc dz (e2N sz sz') (fillE c)).length = e2N sz sz' ∧ (cyc dz' (e2N sz sz') (fillE c')).length = e2N sz sz') := ⟨e2V_length .., cyc_length .., cyc_length ..⟩
      have hn4 := hn.2.2
      have HN : Hid (errOf (shp sz sz') = 0 ∧ ((e2N sz sz' : Nat) : Int) = prod (shp sz sz')) := ⟨hn.1, hn.2.1⟩
      clear hn a0 b0
      have a0 := pau.c0
      have a1 := pau.c1
      have a2 := pau.c2
      go_wp2_with fail
      refine (shaped_mid Sa Sc (shp sz sz') (e2N sz sz') c sa sc sz da dc dz hz6 hn4 h2 wc ((hSa.below hbu.out).mono hbu.out.size) ((HI.out.1.2.below hbu.out).mono hbu.out.size) HN.out.1 HN.out.2).mono ?_
      rintro e w1 ⟨xa, xc, ya, yc, md, rfl, hX, hY, lm1, lm2, hB1⟩
      have hb1 : Hid (Below w.heap.size w w1) := hbu.out.trans (hB1.mono hbu.out.size)
      have pa1 := pau.go hB1
      have pb1 := pbu.go hB1
      have pr1 := pru.go hB1
      have lw := hB1.size
      have l1 := pru.lt
      have l0 := hbu.out.size
      clear a0 a1 a2 hB1 pau pbu pru
      have pa2 := pa1.al (.cells #[.bool c, .slice xa (shp sz sz').length xc, .slice ya (cyc dz (e2N sz sz') (fillE c)).length yc] 25)
      have pb2 := pb1.al (.cells #[.bool c, .slice xa (shp sz sz').length xc, .slice ya (cyc dz (e2N sz sz') (fillE c)).length yc] 25)
      have pr2 := pr1.al (.cells #[.bool c, .slice xa (shp sz sz').length xc, .slice ya (cyc dz (e2N sz sz') (fillE c)).length yc] 25)
      have px2 := Abx.new w1 (.bool c) (.slice xa (shp sz sz').length xc) (.slice ya (cyc dz (e2N sz sz') (fillE c)).length yc)
      have hb2 : Hid (Below w.heap.size w (w1.alloc (.cells #[.bool c, .slice xa (shp sz sz').length xc, .slice ya (cyc dz (e2N sz sz') (fillE c)).length yc] 25))) := hb1.out.alloc hb1.out.size _
      have hX2 := hX.al lm2 (.cells #[.bool c, .slice xa (shp sz sz').length xc, .slice ya (cyc dz (e2N sz sz') (fillE c)).length yc] 25)
      have hY2 := hY.mid.al (Nat.le_refl _) (.cells #[.bool c, .slice xa (shp sz sz').length xc, .slice ya (cyc dz (e2N sz sz') (fillE c)).length yc] 25)
      have hsz2 : (w1.alloc (.cells #[.bool c, .slice xa (shp sz sz').length xc, .slice ya (cyc dz (e2N sz sz') (fillE c)).length yc] 25)).heap.size = w1.heap.size + 1 := by simp
      have b0 := pb2.c0
      have b1 := pb2.c1
      have b2 := pb2.c2
      clear pa1 pb1 pr1 hX hY
      go_wp2_with fail
      refine (shaped_any Sa Sc (shp sz sz') (e2N sz sz') c' sa' sc' sz' da' dc' dz' hz6 hn4 h2' _ ((hSa.below hb2.out).mono hb2.out.size) ((HI.out.2.2.below hb2.out).mono hb2.out.size) HN.out.1 HN.out.2).mono ?_
      rintro e w3 ⟨ta, tc, ua, uc, rfl, hT, hU, hB3⟩
      rw [hsz2] at hB3 hU hT
      have hb3 : Hid (Below w.heap.size w w3) := hb2.out.trans (hB3.mono (by have := hb2.out.size; rw [hsz2] at this; exact this))
      have pa3 := pa2.bel hB3 (by omega)
      have pb3 := pb2.bel hB3 (by omega)
      have pr3 := pr2.bel hB3 (by omega)
      have px3 := px2.bel hB3 (by omega)
      have hX3 := hX2.bel (hB3.mono (by omega))
      have hY3 := hY2.bel (hB3.mono (by omega))
      have hU3 := hU.mid
      have lw3 := hB3.size
      rw [hsz2] at lw3
      clear b0 b1 b2 hB3 pa2 pb2 pr2 px2 hX2 hY2 hb2 hsz2 hT
      have x0 := (px3.al (.cells #[.bool c', .slice ta (shp sz sz').length tc, .slice ua (cyc dz' (e2N sz sz') (fillE c')).length uc] 25)).c0
      have xf := (px3.al (.cells #[.bool c', .slice ta (shp sz sz').length tc, .slice ua (cyc dz' (e2N sz sz') (fillE c')).length uc] 25)).fr 0
      go_wp2_with fail
      have YB : Hid (∀ (P : World → Prop), P (w3.alloc (.cells #[.bool c', .slice ta (shp sz sz').length tc, .slice ua (cyc dz' (e2N sz sz') (fillE c')).length uc] 25)) → P (w3.alloc (.cells #[.bool c', .slice ta (shp sz sz').length tc, .slice ua (cyc dz' (e2N sz sz') (fillE c')).length uc] 25))) := fun _ h => h
      go_loopw [13] (fun i wr => ∃ k : Nat, k ≤ e2N sz sz' ∧ i = .int .i64 k ∧ Hid (∀ j, j < k → tcE f (c == c') (e2C dz j) (e2C dz' j) = 0) ∧ Abx wr w.heap.size (.bool c) (.slice sa sz.length sc) (.slice da dz.length dc) ∧ Abx wr (w.heap.size + 1) (.bool c') (.slice sa' sz'.length sc') (.slice da' dz'.length dc') ∧ Abx wr (w.heap.size + 1 + 1) (.bool false) (.slice none 0 0) (.slice none 0 0)
          ∧ Abx wr w1.heap.size (.bool false) (.slice xa (shp sz sz').length xc) (.slice ya (cyc dz (e2N sz sz') (fillE c)).length yc) ∧ Abx wr w3.heap.size (.bool c') (.slice ta (shp sz sz').length tc) (.slice ua (cyc dz' (e2N sz sz') (fillE c')).length uc)
          ∧ MidInts wc.heap.size md wr xa (shp sz sz') ∧ MidInts md w1.heap.size wr ya (mixL (e2V f c sz dz c' sz' dz') (cyc dz (e2N sz sz') (fillE c)) k) ∧ MidInts (w1.heap.size + 1) w3.heap.size wr ua (cyc dz' (e2N sz sz') (fillE c')) ∧ w3.heap.size ≤ wr.heap.size ∧ Below w.heap.size w wr) (fun i _ => e2N sz sz' - (intOf i).toNat)
      case atStart =>
        refine ⟨0, Nat.zero_le _, rfl, (fun j hj => by omega), (pa3.al _).ot (by show w.heap.size ≠ w1.heap.size; omega) _, (pb3.al _).ot (by show w.heap.size + 1 ≠ w1.heap.size; omega) _, (pr3.al _).ot (by show w.heap.size + 1 + 1 ≠ w1.heap.size; omega) _, (px3.al _).s0 _, (Abx.new w3 _ _ _).ot (by show w3.heap.size ≠ w1.heap.size; omega) _, ?_, ?_, ?_, by simp [World.setCell], (hb3.out.alloc hb3.out.size _).setCell (p := ⟨w1.heap.size, 0, none⟩) (by show w.heap.size ≤ w1.heap.size; omega) _⟩
        · exact (hX3.al (by omega) _).off (by show md ≤ w1.heap.size; omega) _
        · rw [mixL_zero]; exact (hY3.al (by omega) _).off (by show w1.heap.size ≤ w1.heap.size; omega) _
        · exact (hU3.al (Nat.le_refl _) _).set (by show w1.heap.size < w1.heap.size + 1; omega) _
      case round =>
        clear hX3 hY3 hU3 pa3 pb3 pr3 px3 x0 xf YB
        obtain ⟨k, hk, rfl, HA, qa, qb, qr, qx, qy, mX, mY, mU, hsx, hBx⟩ := hrel
        have a0 := qa.c0
        have b0 := qb.c0
        have x2 := qx.c2
        have y2 := qy.c2
        by_cases hlt : k < e2N sz sz'
        · have hsome := e2_some E.out hlt
          have HM := mixL_nth (X := cyc dz (e2N sz sz') (fillE c)) HV.out.1 hlt
          have HML := mixL_length HV.out.1 HV.out.2.1 hk
          obtain ⟨b, off, hya, hb1, hcell⟩ := mY.ints.at (q := k) (by rw [HML]; exact hlt)
          have hc := hcell k (by rw [HML]; exact hlt)
          rw [HM, cyc_nth _ _ _ hlt, cyA_any hsome.1 (fillE c) 0] at hc
          obtain ⟨b', off', hua, hb2, hcell'⟩ := mU.ints.at (q := k) (by rw [HV.out.2.2]; exact hlt)
          have hc' := hcell' k (by rw [HV.out.2.2]; exact hlt)
          rw [cyc_nth _ _ _ hlt, cyA_any hsome.2 (fillE c') 0] at hc'
          clear hcell hcell' HM HML
          subst hya hua
          have hfz : wr.frozen? ⟨b, off + k, none⟩ = false := by
            rcases mY with e | ⟨b1, o1, e, _, _, _, hz⟩
            · have := congrArg List.length e; rw [mixL_length HV.out.1 HV.out.2.1 hk] at this; simp at this; omega
            · cases e; exact hz k
          have hlo : md ≤ b := by
            rcases mY with e | ⟨b1, o1, e, hh, _, _, hz⟩
            · have := congrArg List.length e; rw [mixL_length HV.out.1 HV.out.2.1 hk] at this; simp at this; omega
            · cases e; exact hh
          have hl1 : (k : Int) < (((cyc dz (e2N sz sz') (fillE c)).length : Nat) : Int) := by rw [HV.out.2.1]; omega
          have hl2 : (k : Int) < (((cyc dz' (e2N sz sz') (fillE c')).length : Nat) : Int) := by rw [HV.out.2.2]; omega
          have hl3 : k < (cyc dz (e2N sz sz') (fillE c)).length := by omega
          have hl4 : k < (cyc dz' (e2N sz sz') (fillE c')).length := by omega
          have HT : Hid (In64 (e2C dz k) ∧ In64 (e2C dz' k)) := ⟨In64.cyA T.out.1 hsome.1 0 k, In64.cyA T.out.2 hsome.2 0 k⟩
          have hce : cyA dz 0 k = e2C dz k := rfl
          have hce' : cyA dz' 0 k = e2C dz' k := rfl
          rw [hce] at hc
          rw [hce'] at hc'
          clear hce hce' hsome
          go_wp2_with fail
          refine anyT_begin 19 (fun w' => w'.cell? ⟨w.heap.size, 0, none⟩ = some (.bool c) ∧ w'.cell? ⟨w1.heap.size, 2, none⟩ = some (.slice (some ⟨b, off, none⟩) (cyc dz (e2N sz sz') (fillE c)).length yc) ∧ w'.cell? ⟨b, off + k, none⟩ = some (.int .i64 (e2C dz k)) ∧ w'.cell? ⟨w.heap.size + 1, 0, none⟩ = some (.bool c') ∧ w'.cell? ⟨w3.heap.size, 2, none⟩ = some (.slice (some ⟨b', off', none⟩) (cyc dz' (e2N sz sz') (fillE c')).length uc) ∧ w'.cell? ⟨b', off' + k, none⟩ = some (.int .i64 (e2C dz' k))) 21 #[false, false, false, false, false, false, false, false, false, false, false, false, false, false, false, false, false, false, false, false, false] (by kernel_rfl) rfl rfl ?_
          refine anyT_put 0 96 ?rv39 #[true, false, false, false, false, false, false, false, false, false, false, false, false, false, false, false, false, false, false, false, false] rfl rfl rfl (by kernel_rfl) (by kernel_rfl) (by kernel_rfl) (fun _ _ _ h => h) (by decide) ?ry39 (fun _ => ⟨a0, x2, hc, b0, y2, hc'⟩) ?rm39
          case ry39 => first | exact Or.inl ⟨by rfl, by intro w'; go_simp; first | done | rfl⟩
          case rm39 =>
          simp only [Act.put, List.setIfInBounds_toArray, List.set_cons_zero, List.set_cons_succ]
          refine anyT_put 1 97 ?rv40 #[true, true, false, false, false, false, false, false, false, false, false, false, false, false, false, false, false, false, false, false, false] rfl rfl rfl (by kernel_rfl) (by kernel_rfl) (by kernel_rfl) (fun _ _ _ h => h) (by decide) ?ry40 (fun _ => ⟨a0, x2, hc, b0, y2, hc'⟩) ?rm40
          case ry40 => first | exact Or.inl ⟨by rfl, by intro w'; go_simp; first | done | rfl⟩
          case rm40 =>
          simp only [Act.put, List.setIfInBounds_toArray, List.set_cons_zero, List.set_cons_succ]
          refine anyT_take 2 98 ?rv41 #[true, true, true, false, false, false, false, false, false, false, false, false, false, false, false, false, false, false, false, false, false] rfl rfl rfl (by kernel_rfl) (by kernel_rfl) (by kernel_rfl) (fun _ _ _ h => h) (by kernel_rfl) (by decide) (by kernel_rfl) ?ry41 (⟨a0, x2, hc, b0, y2, hc'⟩) ?rm41
          case ry41 => first | exact Or.inl ⟨by rfl, by intro w' hw'; (try dsimp only at hw'); go_simp; first | done | rfl⟩
          case rm41 =>
          simp only [Act.put, List.setIfInBounds_toArray, List.set_cons_zero, List.set_cons_succ]
          refine anyT_put 3 99 ?rv42 #[true, true, true, true, false, false, false, false, false, false, false, false, false, false, false, false, false, false, false, false, false] rfl rfl rfl (by kernel_rfl) (by kernel_rfl) (by kernel_rfl) (fun _ _ _ h => h) (by decide) ?ry42 (fun _ => ⟨a0, x2, hc, b0, y2, hc'⟩) ?rm42
          case ry42 => first | exact Or.inl ⟨by rfl, by intro w'; go_simp; first | done | rfl⟩
          case rm42 =>
          simp only [Act.put, List.setIfInBounds_toArray, List.set_cons_zero, List.set_cons_succ]
          refine anyT_take 4 100 ?rv43 #[true, true, true, true, true, false, false, false, false, false, false, false, false, false, false, false, false, false, false, false, false] rfl rfl rfl (by kernel_rfl) (by kernel_rfl) (by kernel_rfl) (fun _ _ _ h => h) (by kernel_rfl) (by decide) (by kernel_rfl) ?ry43 (⟨a0, x2, hc, b0, y2, hc'⟩) ?rm43
          case ry43 => first | exact Or.inl ⟨by rfl, by intro w' hw'; (try dsimp only at hw'); go_simp; first | done | rfl⟩
          case rm43 =>
          simp only [Act.put, List.setIfInBounds_toArray, List.set_cons_zero, List.set_cons_succ]
          refine anyT_put 5 101 ?rv44 #[true, true, true, true, true, true, false, false, false, false, false, false, false, false, false, false, false, false, false, false, false] rfl rfl rfl (by kernel_rfl) (by kernel_rfl) (by kernel_rfl) (fun _ _ _ h => h) (by decide) ?ry44 (fun _ => ⟨a0, x2, hc, b0, y2, hc'⟩) ?rm44
          case ry44 => first | exact Or.inl ⟨by rfl, by intro w'; go_simp; first | done | rfl⟩
          case rm44 =>
          simp only [Act.put, List.setIfInBounds_toArray, List.set_cons_zero, List.set_cons_succ]
          refine anyT_put 6 102 ?rv45 #[true, true, true, true, true, true, true, false, false, false, false, false, false, false, false, false, false, false, false, false, false] rfl rfl rfl (by kernel_rfl) (by kernel_rfl) (by kernel_rfl) (fun _ _ _ h => h) (by decide) ?ry45 (fun _ => ⟨a0, x2, hc, b0, y2, hc'⟩) ?rm45
          case ry45 => first | exact Or.inl ⟨by rfl, by intro w'; go_simp; first | done | rfl⟩
          case rm45 =>
          simp only [Act.put, List.setIfInBounds_toArray, List.set_cons_zero, List.set_cons_succ]
          refine anyT_take 7 103 ?rv46 #[true, true, true, true, true, true, true, true, false, false, false, false, false, false, false, false, false, false, false, false, false] rfl rfl rfl (by kernel_rfl) (by kernel_rfl) (by kernel_rfl) (fun _ _ _ h => h) (by kernel_rfl) (by decide) (by kernel_rfl) ?ry46 (⟨a0, x2, hc, b0, y2, hc'⟩) ?rm46
          case ry46 => first | exact Or.inl ⟨by rfl, by intro w' hw'; (try dsimp only at hw'); go_simp; first | done | rfl⟩
          case rm46 =>
          simp only [Act.put, List.setIfInBounds_toArray, List.set_cons_zero, List.set_cons_succ]
          refine anyT_put 8 104 ?rv47 #[true, true, true, true, true, true, true, true, true, false, false, false, false, false, false, false, false, false, false, false, false] rfl rfl rfl (by kernel_rfl) (by kernel_rfl) (by kernel_rfl) (fun _ _ _ h => h) (by decide) ?ry47 (fun _ => ⟨a0, x2, hc, b0, y2, hc'⟩) ?rm47
          case ry47 => first | exact Or.inl ⟨by rfl, by intro w'; go_simp; first | done | rfl⟩
          case rm47 =>
          simp only [Act.put, List.setIfInBounds_toArray, List.set_cons_zero, List.set_cons_succ]
          refine anyT_take 9 105 ?rv48 #[true, true, true, true, true, true, true, true, true, true, false, false, false, false, false, false, false, false, false, false, false] rfl rfl rfl (by kernel_rfl) (by kernel_rfl) (by kernel_rfl) (fun _ _ _ h => h) (by kernel_rfl) (by decide) (by kernel_rfl) ?ry48 (⟨a0, x2, hc, b0, y2, hc'⟩) ?rm48
          case ry48 => first | exact Or.inl ⟨by rfl, by intro w' hw'; (try dsimp only at hw'); go_simp; first | done | rfl⟩
          case rm48 =>
          simp only [Act.put, List.setIfInBounds_toArray, List.set_cons_zero, List.set_cons_succ]
          refine anyT_put 10 106 ?rv49 #[true, true, true, true, true, true, true, true, true, true, true, false, false, false, false, false, false, false, false, false, false] rfl rfl rfl (by kernel_rfl) (by kernel_rfl) (by kernel_rfl) (fun _ _ _ h => h) (by decide) ?ry49 (fun _ => ⟨a0, x2, hc, b0, y2, hc'⟩) ?rm49
          case ry49 => first | exact Or.inl ⟨by rfl, by intro w'; go_simp; first | done | rfl⟩
          case rm49 =>
          simp only [Act.put, List.setIfInBounds_toArray, List.set_cons_zero, List.set_cons_succ]
          refine anyT_take 11 107 ?rv50 #[true, true, true, true, true, true, true, true, true, true, true, true, false, false, false, false, false, false, false, false, false] rfl rfl rfl (by kernel_rfl) (by kernel_rfl) (by kernel_rfl) (fun _ _ _ h => h) (by kernel_rfl) (by decide) (by kernel_rfl) ?ry50 (⟨a0, x2, hc, b0, y2, hc'⟩) ?rm50
          case ry50 => first | exact Or.inl ⟨by rfl, by intro w' hw'; (try dsimp only at hw'); go_simp; first | done | rfl⟩
          case rm50 =>
          simp only [Act.put, List.setIfInBounds_toArray, List.set_cons_zero, List.set_cons_succ]
          refine anyT_put 12 108 ?rv51 #[true, true, true, true, true, true, true, true, true, true, true, true, true, false, false, false, false, false, false, false, false] rfl rfl rfl (by kernel_rfl) (by kernel_rfl) (by kernel_rfl) (fun _ _ _ h => h) (by decide) ?ry51 (fun _ => ⟨a0, x2, hc, b0, y2, hc'⟩) ?rm51
          case ry51 => first | exact Or.inl ⟨by rfl, by intro w'; go_simp; first | done | rfl⟩
          case rm51 =>
          simp only [Act.put, List.setIfInBounds_toArray, List.set_cons_zero, List.set_cons_succ]
          refine anyT_put 13 109 ?rv52 #[true, true, true, true, true, true, true, true, true, true, true, true, true, true, false, false, false, false, false, false, false] rfl rfl rfl (by kernel_rfl) (by kernel_rfl) (by kernel_rfl) (fun _ _ _ h => h) (by decide) ?ry52 (fun _ => ⟨a0, x2, hc, b0, y2, hc'⟩) ?rm52
          case ry52 => first | exact Or.inl ⟨by rfl, by intro w'; go_simp; first | done | rfl⟩
          case rm52 =>
          simp only [Act.put, List.setIfInBounds_toArray, List.set_cons_zero, List.set_cons_succ]
          refine anyT_take 14 110 ?rv53 #[true, true, true, true, true, true, true, true, true, true, true, true, true, true, true, false, false, false, false, false, false] rfl rfl rfl (by kernel_rfl) (by kernel_rfl) (by kernel_rfl) (fun _ _ _ h => h) (by kernel_rfl) (by decide) (by kernel_rfl) ?ry53 (⟨a0, x2, hc, b0, y2, hc'⟩) ?rm53
          case ry53 => first | exact Or.inl ⟨by rfl, by intro w' hw'; (try dsimp only at hw'); go_simp; first | done | rfl⟩
          case rm53 =>
          simp only [Act.put, List.setIfInBounds_toArray, List.set_cons_zero, List.set_cons_succ]
          refine anyT_one 15 #[true, true, true, true, true, true, true, true, true, true, true, true, true, true, true, true, false, false, false, false, false] (by kernel_rfl) rfl rfl (fun K hK => ?_)
          go_simp
          go_wp2_with (go_at_call 11; refine (twocells_any f c (e2C dz k) c' (e2C dz' k) HT.out.1 HT.out.2 wr.drew).mono ?_; rintro e u5 ⟨rfl, hu5⟩; subst hu5)
          refine hK.out _ _ (fun _ => ⟨a0, x2, hc, b0, y2, hc'⟩) ?_
          clear hK K
          refine anyT_put 16 95 ?rv55 #[true, true, true, true, true, true, true, true, true, true, true, true, true, true, true, true, true, false, false, false, false] rfl rfl rfl (by kernel_rfl) (by kernel_rfl) (by kernel_rfl) (fun _ _ _ h => h) (by decide) ?ry55 (fun _ => ⟨a0, x2, hc, b0, y2, hc'⟩) ?rm55
          case ry55 => first | exact Or.inl ⟨by rfl, by intro w'; go_simp; first | done | rfl⟩
          case rm55 =>
          simp only [Act.put, List.setIfInBounds_toArray, List.set_cons_zero, List.set_cons_succ]
          refine anyT_put 17 112 ?rv56 #[true, true, true, true, true, true, true, true, true, true, true, true, true, true, true, true, true, true, false, false, false] rfl rfl rfl (by kernel_rfl) (by kernel_rfl) (by kernel_rfl) (fun _ _ _ h => h) (by decide) ?ry56 (fun _ => ⟨a0, x2, hc, b0, y2, hc'⟩) ?rm56
          case ry56 => first | exact Or.inl ⟨by rfl, by intro w'; go_simp; first | done | rfl⟩
          case rm56 =>
          simp only [Act.put, List.setIfInBounds_toArray, List.set_cons_zero, List.set_cons_succ]
          refine anyT_put 18 113 ?rv57 #[true, true, true, true, true, true, true, true, true, true, true, true, true, true, true, true, true, true, true, false, false] rfl rfl rfl (by kernel_rfl) (by kernel_rfl) (by kernel_rfl) (fun _ _ _ h => h) (by decide) ?ry57 (fun _ => ⟨a0, x2, hc, b0, y2, hc'⟩) ?rm57
          case ry57 => first | exact Or.inl ⟨by rfl, by intro w'; go_simp; first | done | rfl⟩
          case rm57 =>
          simp only [Act.put, List.setIfInBounds_toArray, List.set_cons_zero, List.set_cons_succ]
          refine anyT_one 19 #[true, true, true, true, true, true, true, true, true, true, true, true, true, true, true, true, true, true, true, true, false] (by kernel_rfl) rfl rfl (fun K hK => ?_)
          go_simp
          refine hK.out _ _ (fun h => absurd h (by decide)) ?_
          clear hK K
          refine anyT_one 20 #[true, true, true, true, true, true, true, true, true, true, true, true, true, true, true, true, true, true, true, true, true] (by kernel_rfl) rfl rfl (fun K hK => ?_)
          go_simp
          refine hK.out _ _ (fun h => absurd h (by decide)) ?_
          clear hK K
          refine anyT_done (by kernel_rfl) ?_
          by_cases hx : tcE f (c == c') (e2C dz k) (e2C dz' k) = 0
          · have HX : Hid (tcE f (c == c') (e2C dz k) (e2C dz' k) = 0) := hx
            rw [hx]
            clear hx
            have HW : Hid (nth (e2V f c sz dz c' sz' dz') k = tcV f (c == c') (e2C dz k) (e2C dz' k)) := e2V_nth _ _ _ _ _ _ _ hlt
            go_wp2_with fail
            refine ⟨⟨k + 1, by omega, by go_num, allN HA.out HX.out, ?_, ?_, ?_, ?_, ?_, ?_, ?_, ?_, by simpa [World.setCell] using hsx, ?_⟩, by simp [intOf]; omega⟩
            · exact qa.dr.ot (by show w.heap.size ≠ b; omega) _
            · exact qb.dr.ot (by show w.heap.size + 1 ≠ b; omega) _
            · exact qr.dr.ot (by show w.heap.size + 1 + 1 ≠ b; omega) _
            · exact qx.dr.ot (by show w1.heap.size ≠ b; omega) _
            · exact qy.dr.ot (by show w3.heap.size ≠ b; omega) _
            · exact mX.dr.off (by show md ≤ b; omega) _
            · rw [← mixL_set HV.out.1 HV.out.2.1 hlt, HW.out]
              exact mY.dr.put (by rw [mixL_length HV.out.1 HV.out.2.1 hk]; exact hlt) _
            · exact mU.dr.set (by show b < w1.heap.size + 1; omega) _
            · exact hBx.drew.setCell (p := ⟨b, off + k, none⟩) (by show w.heap.size ≤ b; omega) _
          · obtain ⟨HE, H6⟩ := e2E_cell E.out hlt hx
            have HE' : Hid (e2E f c sz dz c' sz' dz' = 6) := HE
            rw [H6]
            clear HE H6 hx
            have r_0 := qr.c0
            have r_1 := qr.c1
            have r_2 := qr.c2
            have f_0 := qr.fr 0
            have f_1 := qr.fr 1
            have f_2 := qr.fr 2
            go_wp2_with fail
            have FF := (qr.set3 (.bool false) (.slice none 0 0) (.slice none 0 0)).dr
            have q0 := FF.c0
            have q1 := FF.c1
            have q2 := FF.c2
            refine bodyPost_ret (v := .tuple #[.agg #[.bool false, .slice none 0 0, .slice none 0 0], .int .i64 6]) ?_ rfl (R2P.no HE'.out (by decide) (bel_set3 hBx (by omega) _ _ _).drew)
            simp [results, Tryd.results4, go_sem, q0, q1, q2]
        · obtain rfl : k = e2N sz sz' := by omega
          rw [mixL_end HV.out.1 HV.out.2.1] at mY
          have HE : Hid (e2E f c sz dz c' sz' dz' = 0) := e2E_ok E.out HA.out
          have HL : Hid ((cyc dz (e2N sz sz') (fillE c)).length = (e2V f c sz dz c' sz' dz').length) := by show _ = _; rw [HV.out.1, HV.out.2.1]
          have tl : ¬ (((e2N sz sz' : Nat) : Int) < (((cyc dz (e2N sz sz') (fillE c)).length : Nat) : Int)) := by rw [HV.out.2.1]; omega
          have x0 := qx.c0
          have x1 := qx.c1
          have r_0 := qr.c0
          have r_1 := qr.c1
          have r_2 := qr.c2
          have f_0 := qr.fr 0
          have f_1 := qr.fr 1
          have f_2 := qr.fr 2
          clear hlt
          go_wp2_with fail
          have FF := qr.set3 (.bool false) (.slice xa (shp sz sz').length xc) (.slice ya (cyc dz (e2N sz sz') (fillE c)).length yc)
          have q0 := FF.c0
          have q1 := FF.c1
          have q2 := FF.c2
          refine bodyPost_ret (v := .tuple #[.agg #[.bool false, .slice xa (shp sz sz').length xc, .slice ya (cyc dz (e2N sz sz') (fillE c)).length yc], .int .i64 0]) (by simp [results, Tryd.results4, go_sem, q0, q1, q2]) rfl (.inr ⟨HE.out, xa, xc, ya, yc, by rw [HL.out], ?_, ?_, bel_set3 hBx (by omega) _ _ _⟩)
          · exact ((mX.new (by omega)).set3 (by omega) _ _ _).low (by omega)
          · exact ((mY.new (by omega)).set3 (by omega) _ _ _).low (by omega)
theorem reach2_any (f : Int) (c : Bool) (sa : Option Addr) (sc : Nat) (sz : List Int) (da : Option Addr) (dc : Nat) (dz : List Int) (c' : Bool) (sa' : Option Addr) (sc' : Nat) (sz' : List Int) (da' : Option Addr) (dc' : Nat) (dz' : List Int)
    (h1 : sz.length ≤ 9223372036854775807) (h2 : dz.length ≤ 9223372036854775807) (h1' : sz'.length ≤ 9223372036854775807) (h2' : dz'.length ≤ 9223372036854775807) (w : World) (hs : IsInts w.heap.size w sa sz) (hd : IsInts w.heap.size w da dz) (hs' : IsInts w.heap.size w sa' sz') (hd' : IsInts w.heap.size w da' dz') (T : (∀ j, In64 (nth dz j)) ∧ ∀ j, In64 (nth dz' j)) :
    Calls Tryd.prog 4 #[.int .i64 f, .agg #[.bool c, .slice sa sz.length sc, .slice da dz.length dc], .agg #[.bool c', .slice sa' sz'.length sc', .slice da' dz'.length dc']] w fun e w' => R2P f c sz dz c' sz' dz' w e w' := by
  by_cases h : f < 1
  · exact reach2_lo f c sa sc sz da dc dz c' sa' sc' sz' da' dc' dz' h1 h2 h1' h2' w hs hd hs' hd' h
  · by_cases h' : 16 < f
    · exact reach2_hi f c sa sc sz da dc dz c' sa' sc' sz' da' dc' dz' h1 h2 h1' h2' w hs hd hs' hd' h'
    · by_cases g : flawsE c sz dz c' sz' dz' = 0
      · by_cases r : sz.length ≠ 0 ∧ sz'.length ≠ 0 ∧ sz.length ≠ sz'.length
        · exact reach2_rank f c sa sc sz da dc dz c' sa' sc' sz' da' dc' dz' h1 h2 h1' h2' w hs hd hs' hd' h h' g r
        · by_cases l : sz.length = sz'.length ∧ sz.length ≠ 0 ∧ sz ≠ sz'
          · exact reach2_len f c sa sc sz da dc dz c' sa' sc' sz' da' dc' dz' h1 h2 h1' h2' w hs hd hs' hd' h h' g l.1 l.2
          · have hsh : sz.length = 0 ∨ sz'.length = 0 ∨ sz = sz' := by
              by_cases p : sz.length = 0
              · exact .inl p
              · by_cases q : sz'.length = 0
                · exact .inr (.inl q)
                · right; right
                  by_cases x : sz = sz'
                  · exact x
                  · by_cases y : sz.length = sz'.length
                    · exact absurd ⟨y, p, x⟩ l
                    · exact absurd ⟨p, q, y⟩ r
            by_cases k : (c = true ∨ c' = true) ∧ f ≠ 8 ∧ f ≠ 9
            · exact reach2_char f c sa sc sz da dc dz c' sa' sc' sz' da' dc' dz' h1 h2 h1' h2' w hs hd hs' hd' h h' g hsh k
            · exact reach2_main f c sa sc sz da dc dz c' sa' sc' sz' da' dc' dz' h1 h2 h1' h2' w hs hd hs' hd' h h' g (e2F_zero.2 ⟨by omega, (flawsE_zero.1 g).1, (flawsE_zero.1 g).2, hsh, k⟩) T
      · exact reach2_flaw f c sa sc sz da dc dz c' sa' sc' sz' da' dc' dz' h1 h2 h1' h2' w hs hd hs' hd' h h' g
end Go.Proofs.YtmbgomljofngnaaDoor
