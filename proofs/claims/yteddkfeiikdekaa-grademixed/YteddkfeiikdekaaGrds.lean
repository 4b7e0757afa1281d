/-
  The program's rows in order.
-/
import Derived.Test.YteddkfeiikdekaaGrdu
import Derived.Test.YteddkfeiikdekaaSrdt
import Derived.Test.YteddkfeiikdekaaClone
import Derived.Test.YteddkfeiikdekaaPapp
import Derived.Test.YteddkfeiikdekaaUbm
import Derived.Test.YteddkfeiikdekaaBase
namespace Go.Proofs.Yteddkfeiikdekaa
open Go.RowKit
set_option linter.unusedVariables false

theorem make_cap10 (N : Nat) (h : N ≤ 100000) (W : World) : (Instr.makeSlice 22 (.int .i64 0) (.int .i64 (N : Int))).run Try.prog W = .ok (.slice (some ⟨W.heap.size, 0, none⟩) 0 N) (W.alloc (.cells (madeCells #[.int .i64 0] N) 3)) := by
  obtain ⟨i0, hi, hz0, hz1, hz2⟩ := info_parts Try.infoInt
  have hr := run_make (P := Try.prog) W 22 3 i0 (.int .i64 0) Try.underlying22 hi hz0 .i64 .i64 0 (N : Int) (by omega) (by omega) (by rw [hz2]; omega) (by omega)
  rw [hr, hz1, Int.toNat_natCast, Nat.mul_one]
  rfl
section
variable {c : Bool} {sa : Option Addr} {sc : Nat} {sz : List Int} {da : Option Addr} {dc : Nat} {dz : List Int} {w : World}
theorem gup_ok (H : CUp) (h1 : sz.length ≤ 9223372036854775807) (h2 : dz.length ≤ 9223372036854775807) (hs : IsC w.heap.size w sa sz sc) (hd : IsC w.heap.size w da dz dc) (he : gdE c sz dz = 0) :
    Calls Try.prog 7 #[.agg #[.bool c, .slice sa sz.length sc, .slice da dz.length dc]] w fun r w' => ∃ g gc, r = .returned (.tuple #[.slice g (gdO false sz dz).length gc, .nilIface]) ∧ NewC w.heap.size w' g (gdO false sz dz) gc ∧ Below w.heap.size w w' :=
  (H c sa sc sz da dc dz w h1 h2 hs hd).mono fun r w' h => by
    unfold UL at h
    rw [onL_ok he, he] at h
    exact h
theorem gup_no (H : CUp) (h1 : sz.length ≤ 9223372036854775807) (h2 : dz.length ≤ 9223372036854775807) (hs : IsC w.heap.size w sa sz sc) (hd : IsC w.heap.size w da dz dc) (he : gdE c sz dz ≠ 0) :
    Calls Try.prog 7 #[.agg #[.bool c, .slice sa sz.length sc, .slice da dz.length dc]] w fun r w' => ∃ g gc, r = .returned (.tuple #[.slice g 0 gc, .iface 57 (.int .i64 (gdE c sz dz))]) ∧ Below w.heap.size w w' :=
  (H c sa sc sz da dc dz w h1 h2 hs hd).mono fun r w' h => by
    unfold UL at h
    rw [onL_no he, errV_pos he] at h
    obtain ⟨g, gc, e, _, hB⟩ := h
    exact ⟨g, gc, e, hB⟩
end
set_option maxRecDepth 100000 in
set_option maxHeartbeats 4000000 in
theorem so_holds : CSo := by
  intro c sa sc sz da dc dz w h1 h2 hs hd
  have HI : Hid (IsC w.heap.size w sa sz sc ∧ IsC w.heap.size w da dz dc) := ⟨hs, hd⟩
  obtain ⟨W1, hW1⟩ : ∃ W1, W1 = (w.alloc (.cells #[.bool c, .slice sa sz.length sc, .slice da dz.length dc] 24)).alloc (.cells #[.bool false, .slice none 0 0, .slice none 0 0] 24) := ⟨_, rfl⟩
  have HB0 : Hid (Below w.heap.size w W1) := by rw [hW1]; exact ((Below.refl _ w).alloc (Nat.le_refl _) _).alloc (by simp) _
  have HP : Hid (Abx W1 w.heap.size (.bool c) (.slice sa sz.length sc) (.slice da dz.length dc)) := by rw [hW1]; exact (Abx.new w _ _ _).al _
  have HR0 : Hid (Abx W1 (w.heap.size + 1) (.bool false) (.slice none 0 0) (.slice none 0 0)) := by rw [hW1]; exact Abx.new1 w _ _ _ _
  have p0 := HP.out.c0
  have p1 := HP.out.c1
  have p2 := HP.out.c2
  have hsW : IsC W1.heap.size W1 sa sz sc := (HI.out.1.below HB0.out).mono HB0.out.size
  have hdW : IsC W1.heap.size W1 da dz dc := (HI.out.2.below HB0.out).mono HB0.out.size
  clear hs hd
  go_enter Try.func18, Try.ntmps18
  go_upto_region 1 with fail
  rw [← hW1]
  clear hW1
  by_cases h3 : gdE c sz dz = 0
  · have H3 : Hid (gdE c sz dz = 0) := h3
    have HU := gup_ok (c := c) up_holds h1 h2 hsW hdW h3
    have HUU : Hid (Calls Try.prog 7 #[.agg #[.bool c, .slice sa sz.length sc, .slice da dz.length dc]] W1 fun r w' => ∃ g gc, r = .returned (.tuple #[.slice g (gdO false sz dz).length gc, .nilIface]) ∧ NewC W1.heap.size w' g (gdO false sz dz) gc ∧ Below W1.heap.size W1 w') := HU
    have hnR := nR_is h3
    have hfl := flawE_short (gdE_zero.1 h3).1
    have h0s := (gdE_zero.1 h3).2
    have HN : Hid (nR sz ≤ 4096 ∧ dz.length ≤ 4096 ∧ sz.length ≤ 6) := ⟨hnR.2, hfl.2, hfl.1⟩
    obtain ⟨O, hO⟩ : ∃ O, O = gdO false sz dz := ⟨_, rfl⟩
    rw [← hO] at HUU
    have HOO : Hid (O = gdO false sz dz ∧ O.length = nR sz ∧ IsOrd O) := ⟨hO, by rw [hO]; exact gdO_length, by rw [hO]; exact gdO_ord false sz dz⟩
    have HNr : Hid (nth sz 0 = ((nR sz : Nat) : Int)) := hnR.1
    clear HU hsW hdW hO hnR hfl h3
    go_wp2_with fail
    refine HUU.out.mono ?_
    rintro e v1 ⟨g, gc, rfl, hN1, hB1⟩
    have HB1 : Hid (Below w.heap.size w v1) := HB0.out.trans (hB1.mono HB0.out.size)
    have HA1 : Hid (Abx v1 w.heap.size (.bool c) (.slice sa sz.length sc) (.slice da dz.length dc)) := HP.out.go hB1
    have HR1 : Hid (Abx v1 (w.heap.size + 1) (.bool false) (.slice none 0 0) (.slice none 0 0)) := HR0.out.go hB1
    have HN1 : Hid (NewC W1.heap.size v1 g O gc) := hN1
    have HRW : Hid (Calls Try.prog 24 #[.agg #[.bool c, .slice sa sz.length sc, .slice da dz.length dc]] v1 (RwsP da dc (nR sz) (lR sz dz) v1)) := by
      rw [lR_is]
      exact rows_any c sa sc sz da dc dz (nR sz) HNr.out HN.out.1 h0s HN.out.2.1 v1 ((HI.out.1.1.below HB1.out).mono HB1.out.size) ((HI.out.2.below HB1.out).mono HB1.out.size)
    have q0 := HA1.out.c0
    have q1 := HA1.out.c1
    have q2 := HA1.out.c2
    clear p0 p1 p2 hN1 hB1
    go_wp2_with fail
    refine HRW.out.mono ?_
    rintro e u ⟨B, rfl, hBl, hrow2, hB2⟩
    have HB2 : Hid (Below w.heap.size w u) := HB1.out.trans (hB2.mono HB1.out.size)
    have HA2 : Hid (Abx u w.heap.size (.bool c) (.slice sa sz.length sc) (.slice da dz.length dc)) := HA1.out.go hB2
    have HR2 : Hid (Abx u (w.heap.size + 1) (.bool false) (.slice none 0 0) (.slice none 0 0)) := HR1.out.go hB2
    have HN2 : Hid (IsInts u.heap.size u g O) := ((HN1.out.go hB2).ints).1
    have HRo : Hid (u.rowIs B 22 (nR sz) (rwV da dc (lR sz dz))) := hrow2
    have HDu : Hid (IsC u.heap.size u da dz dc) := (HI.out.2.below HB2.out).mono HB2.out.size
    obtain ⟨N, hN⟩ : ∃ N, N = dz.length := ⟨_, rfl⟩
    have hmk := make_cap10 N (by have := HN.out.2.1; omega)
    have a2 := HA2.out.c2
    rw [← hN] at a2
    have HNn : Hid (N = dz.length) := hN
    have hBu : B < u.heap.size := hrow2.lt
    clear q0 q1 q2 hrow2 hB2 hN hBl
    go_wp2_with fail
    clear hmk a2
    obtain ⟨n, hn⟩ : ∃ n, n = nR sz := ⟨_, rfl⟩
    obtain ⟨lo, hlo⟩ : ∃ lo, lo = lR sz dz := ⟨_, rfl⟩
    have HLe : Hid (n * lo ≤ dz.length ∧ n ≤ 4096 ∧ dz.length ≤ 4096) := ⟨by rw [hn, hlo]; exact lR_le sz dz, by rw [hn]; exact HN.out.1, HN.out.2.1⟩
    rw [← hn, ← hlo] at HRo
    rw [← hn] at HOO
    have HLO : Hid (lo = lR sz dz) := hlo
    rw [← hn]
    clear hn hlo HNr HRW
    go_loopw [7, 27] (fun v i wr => ∃ k : Nat, k ≤ n ∧ i = .int .i64 k ∧ wr.ownsRow u.heap.size 3 1 v (k * lo) ((srD dz lo (O.take k)).map (Value.int .i64)) ∧ Below u.heap.size u wr) (fun _ i _ => n - (intOf i).toNat)
    case atStart =>
      refine ⟨0, Nat.zero_le _, rfl, ?_, (Below.refl _ u).alloc (Nat.le_refl _) _⟩
      rw [Nat.zero_mul]
      exact World.ownsRow_made u _ N (Nat.le_refl _) (by have := HNn.out; have := HN.out.2.1; unfold maxLen; omega) (by simp [madeCells])
    case round =>
      obtain ⟨k, hk, rfl, hown, hB⟩ := hrel
      have HB : Hid (Below u.heap.size u wr) := hB
      have hn4 : n ≤ 4096 := HLe.out.2.1
      have hol1 : n ≤ O.length := by have := HOO.out.2.1; omega
      have hol2 : O.length ≤ n := by have := HOO.out.2.1; omega
      obtain ⟨M, hM⟩ : ∃ M, M = k * lo := ⟨_, rfl⟩
      have hlen : (srD dz lo (O.take k)).length = M := by rw [hM]; exact srD_take_len HLe.out.1 HOO.out.2.2 HOO.out.2.1 hk
      obtain ⟨g7, c7, rfl, hN7⟩ := own_cap hown
      rw [hlen] at hown ⊢
      rw [← hM] at hown
      have HW : Hid (wr.ownsRow u.heap.size 3 1 (.slice g7 M c7) M ((srD dz lo (O.take k)).map (Value.int .i64))) := hown
      have HN7 : Hid (NewC u.heap.size wr g7 (srD dz lo (O.take k)) c7) := hN7
      have HM : Hid (M = k * lo ∧ (srD dz lo (O.take k)).length = M) := ⟨hM, hlen⟩
      clear hown hN7 hM hlen
      by_cases hlt : k < n
      · obtain ⟨bo, oo, rfl, hbo, hcO⟩ := (HN2.out.below hB).at (q := k) (by omega)
        have ck := hcO k (by omega)
        have hox := ord_at HOO.out.2.2 (i := k) (by omega)
        obtain ⟨x, hx⟩ : ∃ x : Nat, x = (nth O k).toNat := ⟨_, rfl⟩
        have hxn : x < n := by omega
        rw [show nth O k = (x : Int) by omega] at ck
        obtain ⟨ad, cp, ec, hIr⟩ := rwV_at (W := wr) (n₀ := u.heap.size) (HDu.out.below hB) HLe.out.1 (HRo.out.of_block (hB.block B hBu)) hxn
        have hll := rwL_length HLe.out.1 hxn
        rw [hll] at ec
        have HX : Hid (x = (nth O k).toNat) := hx
        have hll4 : M + lo ≤ 4096 := by
          have h6 := Nat.mul_le_mul_right lo (show k + 1 ≤ n by omega)
          have h7 := HM.out.1
          have h8 := HLe.out
          rw [Nat.add_mul, Nat.one_mul] at h6
          omega
        have HLr : Hid ((rwL dz lo x).length = lo ∧ IsInts wr.heap.size wr ad (rwL dz lo x)) := ⟨hll, hIr.mono hB.size⟩
        clear hcO hox hx hll hIr hB
        go_wp2_with (at_builtin; refine app_all rfl _ _ rfl _ u.heap.size (.slice g7 M c7) (srD dz lo (O.take k)) M HM.out.2 ad (rwL dz lo x) lo cp HLr.out.1 rfl rfl HW.out HLr.out.2 (by omega) HB.out.size ?_; intro g1 gc1 w1 hown1 hN1 hB1)
        refine ⟨⟨k + 1, by omega, by go_num, ?_, HB.out.trans hB1⟩, by simp [intOf]; omega⟩
        rw [srD_take (by omega), ← HX.out, Nat.add_mul, Nat.one_mul, ← HM.out.1]
        exact hown1
      · obtain rfl : k = n := by omega
        have HT : Hid (srD dz lo (O.take k) = gdD sz dz) := by
          show _ = _
          rw [List.take_of_length_le hol2]
          unfold gdD
          rw [HOO.out.1, HLO.out]
        rw [HT.out] at HN7 HM
        have HA : Hid (Abx wr w.heap.size (.bool c) (.slice sa sz.length sc) (.slice da dz.length dc)) := HA2.out.go hB
        have HRR : Hid (Abx wr (w.heap.size + 1) (.bool false) (.slice none 0 0) (.slice none 0 0)) := HR2.out.go hB
        have HBw : Hid (Below w.heap.size w wr) := HB2.out.trans (hB.mono HB2.out.size)
        have HY : Hid (NewC w.heap.size wr g7 (gdD sz dz) c7) := HN7.out.low HB2.out.size
        have hR1 : w.heap.size + 1 < u.heap.size := HR2.out.lt
        have e0 := HA.out.c0
        have e1 := HA.out.c1
        have hl6 := HN.out.2.2
        clear hB hlt hk
        go_wp2_with fail
        refine anyT_begin 7 (fun w' => w'.cell? ⟨w.heap.size, 0, none⟩ = some (.bool c) ∧ w'.cell? ⟨w.heap.size, 1, none⟩ = some (.slice sa sz.length sc)) 9 #[false, false, false, false, false, false, false, false, false] (by kernel_rfl) rfl rfl ?_
        refine anyT_put 0 38 ?rv0 #[true, false, false, false, false, false, false, false, false] rfl rfl rfl (by kernel_rfl) (by kernel_rfl) (by kernel_rfl) (fun _ _ _ h => h) (by decide) ?ry0 (fun _ => ⟨e0, e1⟩) ?rm0
        case ry0 => first | exact Or.inl ⟨by rfl, by intro w'; go_simp; first | done | rfl⟩
        case rm0 =>
        simp only [Act.put, List.setIfInBounds_toArray, List.set_cons_zero, List.set_cons_succ]
        refine anyT_take 1 39 ?rv1 #[true, true, false, false, false, false, false, false, false] rfl rfl rfl (by kernel_rfl) (by kernel_rfl) (by kernel_rfl) (fun _ _ _ h => h) (by kernel_rfl) (by decide) (by kernel_rfl) ?ry1 (⟨e0, e1⟩) ?rm1
        case ry1 => first | exact Or.inl ⟨by rfl, by intro w' hw'; (try dsimp only at hw'); go_simp; first | done | rfl⟩
        case rm1 =>
        simp only [Act.put, List.setIfInBounds_toArray, List.set_cons_zero, List.set_cons_succ]
        refine anyT_put 2 40 ?rv2 #[true, true, true, false, false, false, false, false, false] rfl rfl rfl (by kernel_rfl) (by kernel_rfl) (by kernel_rfl) (fun _ _ _ h => h) (by decide) ?ry2 (fun _ => ⟨e0, e1⟩) ?rm2
        case ry2 => first | exact Or.inl ⟨by rfl, by intro w'; go_simp; first | done | rfl⟩
        case rm2 =>
        simp only [Act.put, List.setIfInBounds_toArray, List.set_cons_zero, List.set_cons_succ]
        refine anyT_take 3 41 ?rv3 #[true, true, true, true, false, false, false, false, false] rfl rfl rfl (by kernel_rfl) (by kernel_rfl) (by kernel_rfl) (fun _ _ _ h => h) (by kernel_rfl) (by decide) (by kernel_rfl) ?ry3 (⟨e0, e1⟩) ?rm3
        case ry3 => first | exact Or.inl ⟨by rfl, by intro w' hw'; (try dsimp only at hw'); go_simp; first | done | rfl⟩
        case rm3 =>
        simp only [Act.put, List.setIfInBounds_toArray, List.set_cons_zero, List.set_cons_succ]
        refine anyT_put 5 43 ?rv4 #[true, true, true, true, false, true, false, false, false] rfl rfl rfl (by kernel_rfl) (by kernel_rfl) (by kernel_rfl) (fun _ _ _ h => h) (by decide) ?ry4 (fun _ => ⟨e0, e1⟩) ?rm4
        case ry4 => first | exact Or.inl ⟨by rfl, by intro w'; go_simp; first | done | rfl⟩
        case rm4 =>
        simp only [Act.put, List.setIfInBounds_toArray, List.set_cons_zero, List.set_cons_succ]
        refine anyT_one 4 #[true, true, true, true, true, true, false, false, false] (by kernel_rfl) rfl rfl (fun K hK => ?_)
        go_simp
        go_wp2_with (go_at_call 38; refine (clone_any sa sc sz (by omega) wr.drew ((HI.out.1.1.below HBw.out).mono HBw.out.size)).mono ?_; rintro e w3 ⟨ga, gac, rfl, hN, hBc⟩)
        have HBc : Hid (Below wr.heap.size wr w3) := (Below.refl _ wr).drew.trans hBc
        have HNn3 : Hid (NewC wr.heap.size w3 ga sz gac) := hN
        have A3 := HA.out.go HBc.out
        have R3 := HRR.out.go HBc.out
        have r0 := R3.c0
        have r1 := R3.c1
        have r2 := R3.c2
        have f0 := R3.fr 0
        have f1 := R3.fr 1
        have f2 := R3.fr 2
        clear hN hBc
        refine hK.out _ _ (fun _ => ⟨A3.c0, A3.c1⟩) ?_
        clear hK K
        refine anyT_put 6 44 ?rv6 #[true, true, true, true, true, true, true, false, false] rfl rfl rfl (by kernel_rfl) (by kernel_rfl) (by kernel_rfl) (fun _ _ _ h => h) (by decide) ?ry6 (fun _ => ⟨A3.c0, A3.c1⟩) ?rm6
        case ry6 => first | exact Or.inl ⟨by rfl, by intro w'; go_simp; first | done | rfl⟩
        case rm6 =>
        simp only [Act.put, List.setIfInBounds_toArray, List.set_cons_zero, List.set_cons_succ]
        refine anyT_one 7 #[true, true, true, true, true, true, true, true, false] (by kernel_rfl) rfl rfl (fun K hK => ?_)
        go_simp
        refine hK.out _ _ (fun h => absurd h (by decide)) ?_
        clear hK K
        refine anyT_one 8 #[true, true, true, true, true, true, true, true, true] (by kernel_rfl) rfl rfl (fun K hK => ?_)
        go_simp
        refine hK.out _ _ (fun h => absurd h (by decide)) ?_
        clear hK K
        refine anyT_done (by kernel_rfl) ?_
        go_wp2_with fail
        have F := R3.set3 (.bool c) (.slice ga sz.length gac) (.slice g7 M c7)
        have q0 := F.c0
        have q1 := F.c1
        have q2 := F.c2
        refine bodyPost_ret (v := .tuple #[.agg #[.bool c, .slice ga sz.length gac, .slice g7 M c7], .nilIface]) (by simp [results, Try.results18, go_sem, q0, q1, q2]) rfl ?_
        have hwr : w.heap.size + 1 < wr.heap.size := HRR.out.lt
        have hX := (HNn3.out.set3 (b := w.heap.size + 1) (by omega) (.bool c) (.slice ga sz.length gac) (.slice g7 M c7)).low (lo' := w.heap.size) (by omega)
        have hY := (((HN7.out).go HBc.out).set3 (b := w.heap.size + 1) (by omega) (.bool c) (.slice ga sz.length gac) (.slice g7 M c7)).low (lo' := w.heap.size) (by omega)
        have hZ := bel_set3 (HBw.out.trans (HBc.out.mono HBw.out.size)) (b := w.heap.size + 1) (by omega) (.bool c) (.slice ga sz.length gac) (.slice g7 M c7)
        have hUB := ub_ok (c := c) H3.out hX hY hZ
        rw [HM.out.2] at hUB
        exact hUB
  · have H3 : Hid (gdE c sz dz ≠ 0) := h3
    have HU : Hid (Calls Try.prog 7 #[.agg #[.bool c, .slice sa sz.length sc, .slice da dz.length dc]] W1 fun r w' => ∃ g gc, r = .returned (.tuple #[.slice g 0 gc, .iface 57 (.int .i64 (gdE c sz dz))]) ∧ Below W1.heap.size W1 w') := gup_no (c := c) up_holds h1 h2 hsW hdW h3
    clear hsW hdW h3
    go_wp2_with fail
    refine HU.out.mono ?_
    rintro e v1 ⟨g, gc, rfl, hB1⟩
    have HB1 : Hid (Below w.heap.size w v1) := HB0.out.trans (hB1.mono HB0.out.size)
    have R3 : Hid (Abx v1 (w.heap.size + 1) (.bool false) (.slice none 0 0) (.slice none 0 0)) := HR0.out.go hB1
    have r0 := R3.out.c0
    have r1 := R3.out.c1
    have r2 := R3.out.c2
    have f0 := R3.out.fr 0
    have f1 := R3.out.fr 1
    have f2 := R3.out.fr 2
    clear p0 p1 p2 hB1 HU
    generalize gdE c sz dz = e0 at *
    go_wp2_with fail
    have F := R3.out.set3 (.bool false) (.slice none 0 0) (.slice none 0 0)
    have q0 := F.c0
    have q1 := F.c1
    have q2 := F.c2
    exact bodyPost_ret (v := .tuple #[.agg #[.bool false, .slice none 0 0, .slice none 0 0], .iface 57 (.int .i64 e0)]) (by simp [results, Try.results18, go_sem, q0, q1, q2]) rfl (ub_no rfl H3.out (bel_set3 HB1.out (by omega) _ _ _))
end Go.Proofs.Yteddkfeiikdekaa
