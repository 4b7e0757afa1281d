/-
  The walk of the statement PermCycles, given what the program tells.
-/
import Derived.Test.YtcblakcaoecgpaaDoorRpm7
import Derived.Test.YtcblakcaoecgpaaDoorRpm6
import Derived.Test.YtcblakcaoecgpaaDoorRpm2
import Derived.Test.YtcblakcaoecgpaaDoorPrmt
import Derived.Test.YtcblakcaoecgpaaDoorBas9
namespace Go.Proofs.YtcblakcaoecgpaaDoor
open Go.RowKit
set_option linter.unusedVariables false

theorem rwz_mem {rs : List RwV} {k : Nat} (hk : k < rs.length) : (rwz rs k).2 ∈ rws rs := by
  rw [rwz_get hk]
  exact List.mem_map.2 ⟨_, List.getElem_mem hk, rfl⟩
theorem cy_noE (a : Option Addr) (cap : Nat) (p : List Int) (E : Int) (w : World) (h1 : p.length ≤ 9223372036854775807) (hs : IsInts w.heap.size w a p) (T : ∀ j, In64 (nth p j)) (H : CPy) (h : orE p = E) (h0 : E ≠ 0) :
    Calls Tryd.prog 20 #[.slice a p.length cap] w (NoR E w) := by
  subst h
  exact cy_no a cap p p.length rfl w h1 hs T H h0
theorem rws_eq {rs rs' : List RwV} (h : rws rs = rws rs') {k : Nat} (hk : k < rs.length) : rs.length = rs'.length ∧ (rwz rs k).2 = (rwz rs' k).2 := by
  have hl : rs.length = rs'.length := by have := congrArg List.length h; simpa [rws] using this
  refine ⟨hl, ?_⟩
  rw [rwz_get hk, rwz_get (by omega)]
  have e : (rws rs)[k]? = (rws rs')[k]? := by rw [h]
  simpa [rws, List.getElem?_eq_getElem hk, List.getElem?_eq_getElem (show k < rs'.length by omega)] using e
set_option maxRecDepth 100000 in
set_option maxHeartbeats 8000000 in
theorem cycles_no (HY : CPy) (HS : CPs) (a1 : Option Addr) (c1 : Nat) (p1 : List Int) (x1 : p1.length ≤ 9223372036854775807) (T1 : ∀ j, In64 (nth p1 j)) (w : World) (hg : HasErr w) (w1 : IsInts w.heap.size w a1 p1) (F1 : Hid (orE p1 ≠ 0)) :
    Calls Tryd.prog 5 #[.slice a1 p1.length c1] w fun e w' => e = .returned (.bool true) ∧ Below w.heap.size w w' := by
  have HI1 : Hid (IsInts w.heap.size w a1 p1 ∧ ∀ j, In64 (nth p1 j)) := ⟨w1, T1⟩
  clear w1 T1
  have HG : Hid (HasErr w) := hg
  have hb0 : Hid (Below w.heap.size w w) := Below.refl _ _
  clear hg
  obtain ⟨E, hE⟩ : ∃ E, E = orE p1 := ⟨_, rfl⟩
  have HE : Hid (orE p1 = E ∧ E ≠ 0) := ⟨hE.symm, by rw [hE]; exact F1.out⟩
  have hE0 : (E == 0) = false := by rw [beq_eq_false_iff_ne]; exact HE.out.2
  clear hE
  go_enter Tryd.func5, Tryd.ntmps5
  go_wp2_with fail
  refine (ofault_E a1 c1 p1 E HE.out.1 x1 _ _ ((HI1.out.1.below hb0.out).mono hb0.out.size)).mono ?_
  rintro e v1 ⟨rfl, hB⟩
  have z1 : w.heap.size ≤ v1.heap.size := hB.size
  have hb2 : Hid (Below w.heap.size w v1) := hb0.out.trans (hB.mono hb0.out.size)
  clear hB hb0
  go_wp2_with fail
  refine (cy_noE a1 c1 p1 E _ x1 ((HI1.out.1.below hb2.out).mono hb2.out.size) HI1.out.2 HY HE.out.1 HE.out.2).mono ?_
  rintro e v2 ⟨g1, gc1, rfl, hB⟩
  have z3 : v1.heap.size ≤ v2.heap.size := hB.size
  have hb4 : Hid (Below w.heap.size w v2) := hb2.out.trans (hB.mono hb2.out.size)
  clear hB hb2
  go_wp2_with fail
  refine (err_no9 E HE.out.2 _ (HG.out.below hb4.out HG.out.pos)).mono ?_
  rintro e v3 ⟨rfl, hB⟩
  have z5 : v2.heap.size ≤ v3.heap.size := hB.size
  have hb6 : Hid (Below w.heap.size w v3) := hb4.out.trans (hB.mono hb4.out.size)
  clear hB hb4
  go_wp2_with fail
  go_loopw [9] (fun i wr => i = .int .i64 0 ∧ wr = v3) (fun i _ => 0)
  case atStart => exact ⟨rfl, rfl⟩
  case round =>
    obtain ⟨rfl, hv⟩ := hrel
    obtain rfl := hv.symm
    clear hv
    go_wp2_with fail
    refine (sg_noE a1 c1 p1 E _ x1 ((HI1.out.1.below hb6.out).mono hb6.out.size) HI1.out.2 HS HE.out.1 HE.out.2).mono ?_
    rintro e v4 ⟨rfl, hB⟩
    have z7 : v3.heap.size ≤ v4.heap.size := hB.size
    have hb8 : Hid (Below w.heap.size w v4) := hb6.out.trans (hB.mono hb6.out.size)
    clear hB hb6
    go_wp2_with fail
    refine (err_no9 E HE.out.2 _ (HG.out.below hb8.out HG.out.pos)).mono ?_
    rintro e v5 ⟨rfl, hB⟩
    have z9 : v4.heap.size ≤ v5.heap.size := hB.size
    have hb10 : Hid (Below w.heap.size w v5) := hb8.out.trans (hB.mono hb8.out.size)
    clear hB hb8
    go_wp2_with fail
    go_ret
    exact ⟨rfl, hb10.out⟩
set_option maxRecDepth 100000 in
set_option maxHeartbeats 8000000 in
theorem cycles_ok (HY : CPy) (HS : CPs) (a1 : Option Addr) (c1 : Nat) (p1 : List Int) (x1 : p1.length ≤ 9223372036854775807) (T1 : ∀ j, In64 (nth p1 j)) (w : World) (hg : HasErr w) (w1 : IsInts w.heap.size w a1 p1) (F1 : Hid (orE p1 = 0)) :
    Calls Tryd.prog 5 #[.slice a1 p1.length c1] w fun e w' => e = .returned (.bool true) ∧ Below w.heap.size w w' := by
  have HI1 : Hid (IsInts w.heap.size w a1 p1 ∧ ∀ j, In64 (nth p1 j)) := ⟨w1, T1⟩
  clear w1 T1
  have HG : Hid (HasErr w) := hg
  have hb0 : Hid (Below w.heap.size w w) := Below.refl _ _
  clear hg
  obtain ⟨l1, o1⟩ := orE_zero.1 F1.out
  obtain ⟨S, hS⟩ : ∃ S, sgV p1 = S := ⟨_, rfl⟩
  have HSS : Hid (orE p1 = 0 ∧ sgV p1 = S) := ⟨F1.out, hS⟩
  have HP1 : Hid (IsOrd p1 ∧ p1.length ≤ 4096) := ⟨o1, l1⟩
  clear l1 o1 hS
  go_enter Tryd.func5, Tryd.ntmps5
  go_wp2_with fail
  refine (ofault_E a1 c1 p1 0 F1.out x1 _ _ ((HI1.out.1.below hb0.out).mono hb0.out.size)).mono ?_
  rintro e v1 ⟨rfl, hB⟩
  have z1 : w.heap.size ≤ v1.heap.size := hB.size
  have hb2 : Hid (Below w.heap.size w v1) := hb0.out.trans (hB.mono hb0.out.size)
  clear hB hb0
  go_wp2_with fail
  refine (rounds_any a1 c1 p1 HP1.out.1 HP1.out.2 _ ((HI1.out.1.below hb2.out).mono hb2.out.size)).mono ?_
  rintro e v2 ⟨gy, gyc, rs, rfl, hrs, hR, hB⟩
  have z3 : v1.heap.size ≤ v2.heap.size := hB.size
  have hb4 : Hid (Below w.heap.size w v2) := hb2.out.trans (hB.mono hb2.out.size)
  clear hB hb2
  have HR1 : Hid (rws rs = rnds p1 ∧ IsRs v2.heap.size v2 gy rs) := ⟨hrs.out, hR⟩
  have HRL : Hid (rws rs = rnds p1) := HR1.out.1
  have hc0 : Hid (Below v2.heap.size v2 v2) := Below.refl _ _
  clear hrs hR
  go_wp2_with fail
  have h2 := signed_any a1 c1 p1 HP1.out.2 _ _ ((HI1.out.1.below hb4.out).mono hb4.out.size)
  rw [HSS.out.2] at h2
  refine (h2).mono ?_
  rintro e v3 ⟨rfl, hB⟩
  have z5 : v2.heap.size ≤ v3.heap.size := hB.size
  have hb6 : Hid (Below w.heap.size w v3) := hb4.out.trans (hB.mono hb4.out.size)
  have hc7 : Hid (Below v2.heap.size v2 v3) := hc0.out.trans (hB.mono hc0.out.size)
  clear hB hb4 hc0
  clear h2
  go_wp2_with fail
  refine (cy_ok a1 c1 p1 p1.length rfl _ x1 ((HI1.out.1.below hb6.out).mono hb6.out.size) HI1.out.2 HY F1.out).mono ?_
  rintro e v4 ⟨gz, gzc, rz, rfl, hrz, hZ, hB⟩
  have z8 : v3.heap.size ≤ v4.heap.size := hB.size
  have hb9 : Hid (Below w.heap.size w v4) := hb6.out.trans (hB.mono hb6.out.size)
  have hc10 : Hid (Below v2.heap.size v2 v4) := hc7.out.trans (hB.mono hc7.out.size)
  clear hB hb6 hc7
  have HR2 : Hid (rws rz = rws rs ∧ IsRs v4.heap.size v4 gy rs ∧ IsRs v4.heap.size v4 gz rz) := ⟨by rw [hrz.out, HR1.out.1], (HR1.out.2.below hc10.out).mono hc10.out.size, hZ⟩
  have hc1 : Hid (Below v4.heap.size v4 v4) := Below.refl _ _
  clear hrz hZ hc10 HR1
  have HLR : Hid ((rws rs).length ≤ p1.length ∧ ∀ c : List Int, c ∈ rws rz → rws rz = rws rs → c.length ≤ 4096) := ⟨by rw [HRL.out]; exact rnT_len p1 p1.length, fun c hc e => by rw [e, HRL.out] at hc; exact Nat.le_trans (rnds_len HP1.out.1 hc).2 HP1.out.2⟩
  have HLn : Hid (rz.length = rs.length) := by show _ = _; have := congrArg List.length HR2.out.1; simpa [rws] using this
  have hlz : ((rz.length : Int) != (rs.length : Int)) = false := by rw [bne_eq_false_iff_eq]; have := HLn.out; omega
  have hlz4 : rz.length ≤ 4096 := by have h3 := HLR.out.1; have h4 := HP1.out.2; have h5 := HLn.out; simp [rws] at h3; omega
  go_wp2_with fail
  refine (err_ok9 _ (HG.out.below hb9.out HG.out.pos)).mono ?_
  rintro e v5 ⟨rfl, hB⟩
  have z11 : v4.heap.size ≤ v5.heap.size := hB.size
  have hb12 : Hid (Below w.heap.size w v5) := hb9.out.trans (hB.mono hb9.out.size)
  have hc13 : Hid (Below v4.heap.size v4 v5) := hc1.out.trans (hB.mono hc1.out.size)
  clear hB hb9 hc1
  go_wp2_with fail
  clear hlz
  go_loopw [9] (fun i wr => ∃ q : Nat, q ≤ rz.length ∧ i = .int .i64 q ∧ Below v4.heap.size v4 wr ∧ Below w.heap.size w wr) (fun i _ => rz.length - (intOf i).toNat)
  case atStart => exact ⟨0, Nat.zero_le _, rfl, hc13.out, hb12.out⟩
  case round =>
    obtain ⟨q, hq, rfl, hBc, hBw⟩ := hrel
    by_cases hlt : q < rz.length
    · obtain ⟨hle, hrow⟩ := rws_eq HR2.out.1 hlt
      have hlt' : q < rs.length := by omega
      have hrz1 := ((HR2.out.2.2).below hBc).2 q hlt
      have hrs1 := ((HR2.out.2.1).below hBc).2 q hlt'
      obtain ⟨b, off, rfl, hbb, hcell⟩ := ((HR2.out.2.2).below hBc).at hlt
      obtain ⟨b', off', rfl, hbb', hcell'⟩ := ((HR2.out.2.1).below hBc).at hlt'
      have hc := hcell q hlt
      have hc' := hcell' q hlt'
      have HBc : Hid (Below v4.heap.size v4 wr) := hBc
      have HBw : Hid (Below w.heap.size w wr) := hBw
      have hll := HLR.out.2 _ (rwz_mem hlt) HR2.out.1
      clear hcell hcell' hBc hBw hle
      unfold RwV.v at hc hc'
      rw [← hrow] at hc' hrs1
      generalize (rwz rz q).2 = D at *
      generalize (rwz rz q).1 = A1 at *
      generalize (rwz rs q).1 = A2 at *
      obtain ⟨ra, rc⟩ := A1
      obtain ⟨ra', rc'⟩ := A2
      dsimp only at hc hc' hrz1 hrs1
      have HI9 : Hid (IsInts v4.heap.size wr ra D ∧ IsInts v4.heap.size wr ra' D ∧ D.length ≤ 4096) := ⟨hrz1, hrs1, hll⟩
      clear hrz1 hrs1 hll hrow
      go_wp2_with fail
      refine anyT_begin 9 (fun w' => w'.cell? ⟨b, off + q, none⟩ = some (.slice ra D.length rc) ∧ w'.cell? ⟨b', off' + q, none⟩ = some (.slice ra' D.length rc')) 10 #[false, false, false, false, false, false, false, false, false, false] (by kernel_rfl) rfl rfl ?_
      refine anyT_put 0 43 ?rv0 #[true, false, false, false, false, false, false, false, false, false] rfl rfl rfl (by kernel_rfl) (by kernel_rfl) (by kernel_rfl) (fun _ _ _ h => h) (by decide) ?ry0 (fun _ => ⟨hc, hc'⟩) ?rm0
      case ry0 => first | exact Or.inl ⟨by rfl, by intro w'; go_simp; first | done | rfl⟩
      case rm0 =>
      simp only [Act.put, List.setIfInBounds_toArray, List.set_cons_zero, List.set_cons_succ]
      refine anyT_put 1 44 ?rv1 #[true, true, false, false, false, false, false, false, false, false] rfl rfl rfl (by kernel_rfl) (by kernel_rfl) (by kernel_rfl) (fun _ _ _ h => h) (by decide) ?ry1 (fun _ => ⟨hc, hc'⟩) ?rm1
      case ry1 => first | exact Or.inl ⟨by rfl, by intro w'; go_simp; first | done | rfl⟩
      case rm1 =>
      simp only [Act.put, List.setIfInBounds_toArray, List.set_cons_zero, List.set_cons_succ]
      refine anyT_put 2 45 ?rv2 #[true, true, true, false, false, false, false, false, false, false] rfl rfl rfl (by kernel_rfl) (by kernel_rfl) (by kernel_rfl) (fun _ _ _ h => h) (by decide) ?ry2 (fun _ => ⟨hc, hc'⟩) ?rm2
      case ry2 => first | exact Or.inl ⟨by rfl, by intro w'; go_simp; first | done | rfl⟩
      case rm2 =>
      simp only [Act.put, List.setIfInBounds_toArray, List.set_cons_zero, List.set_cons_succ]
      refine anyT_take 3 46 ?rv3 #[true, true, true, true, false, false, false, false, false, false] rfl rfl rfl (by kernel_rfl) (by kernel_rfl) (by kernel_rfl) (fun _ _ _ h => h) (by kernel_rfl) (by decide) (by kernel_rfl) ?ry3 (⟨hc, hc'⟩) ?rm3
      case ry3 => first | exact Or.inl ⟨by rfl, by intro w' hw'; (try dsimp only at hw'); go_simp; first | done | rfl⟩
      case rm3 =>
      simp only [Act.put, List.setIfInBounds_toArray, List.set_cons_zero, List.set_cons_succ]
      refine anyT_put 4 47 ?rv4 #[true, true, true, true, true, false, false, false, false, false] rfl rfl rfl (by kernel_rfl) (by kernel_rfl) (by kernel_rfl) (fun _ _ _ h => h) (by decide) ?ry4 (fun _ => ⟨hc, hc'⟩) ?rm4
      case ry4 => first | exact Or.inl ⟨by rfl, by intro w'; go_simp; first | done | rfl⟩
      case rm4 =>
      simp only [Act.put, List.setIfInBounds_toArray, List.set_cons_zero, List.set_cons_succ]
      refine anyT_put 5 48 ?rv5 #[true, true, true, true, true, true, false, false, false, false] rfl rfl rfl (by kernel_rfl) (by kernel_rfl) (by kernel_rfl) (fun _ _ _ h => h) (by decide) ?ry5 (fun _ => ⟨hc, hc'⟩) ?rm5
      case ry5 => first | exact Or.inl ⟨by rfl, by intro w'; go_simp; first | done | rfl⟩
      case rm5 =>
      simp only [Act.put, List.setIfInBounds_toArray, List.set_cons_zero, List.set_cons_succ]
      refine anyT_put 6 49 ?rv6 #[true, true, true, true, true, true, true, false, false, false] rfl rfl rfl (by kernel_rfl) (by kernel_rfl) (by kernel_rfl) (fun _ _ _ h => h) (by decide) ?ry6 (fun _ => ⟨hc, hc'⟩) ?rm6
      case ry6 => first | exact Or.inl ⟨by rfl, by intro w'; go_simp; first | done | rfl⟩
      case rm6 =>
      simp only [Act.put, List.setIfInBounds_toArray, List.set_cons_zero, List.set_cons_succ]
      refine anyT_take 7 50 ?rv7 #[true, true, true, true, true, true, true, true, false, false] rfl rfl rfl (by kernel_rfl) (by kernel_rfl) (by kernel_rfl) (fun _ _ _ h => h) (by kernel_rfl) (by decide) (by kernel_rfl) ?ry7 (⟨hc, hc'⟩) ?rm7
      case ry7 => first | exact Or.inl ⟨by rfl, by intro w' hw'; (try dsimp only at hw'); go_simp; first | done | rfl⟩
      case rm7 =>
      simp only [Act.put, List.setIfInBounds_toArray, List.set_cons_zero, List.set_cons_succ]
      refine anyT_one 8 #[true, true, true, true, true, true, true, true, true, false] (by kernel_rfl) rfl rfl (fun K hK => ?_)
      go_simp
      go_wp2_with (go_at_call 21; refine (ints_any ra rc D ra' rc' D (by have := HI9.out.2.2; omega) _ wr.drew HI9.out.1 HI9.out.2.1).mono ?_; rintro e w2 ⟨rfl, hB2⟩; rw [eqB_true rfl])
      have hB3 : Below wr.heap.size wr w2 := (Below.refl wr.heap.size wr).drew.trans hB2
      refine hK.out _ _ (fun _ => ⟨(hB3.cell (p := ⟨b, off + q, none⟩) (Nat.lt_of_lt_of_le hbb HBc.out.size)).trans hc, (hB3.cell (p := ⟨b', off' + q, none⟩) (Nat.lt_of_lt_of_le hbb' HBc.out.size)).trans hc'⟩) ?_
      clear hK K
      refine anyT_one 9 #[true, true, true, true, true, true, true, true, true, true] (by kernel_rfl) rfl rfl (fun K hK => ?_)
      go_simp
      refine hK.out _ _ (fun h => absurd h (by decide)) ?_
      clear hK K
      refine anyT_done (by kernel_rfl) ?_
      go_wp2
      go_roundw
      case rel => exact ⟨q + 1, by omega, by go_num, HBc.out.trans (hB3.mono HBc.out.size), HBw.out.trans (hB3.mono HBw.out.size)⟩
      case measure => simp [intOf]; omega
    · obtain rfl : q = rz.length := by omega
      have hbL : Hid (Below w.heap.size w wr) := hBw
      clear hBc hBw
      go_wp2_with fail
      refine (sg_ok a1 c1 p1 p1.length rfl _ x1 ((HI1.out.1.below hbL.out).mono hbL.out.size) HI1.out.2 S HS HSS.out).mono ?_
      rintro e v6 ⟨rfl, hB⟩
      have z14 : wr.heap.size ≤ v6.heap.size := hB.size
      have hb15 : Hid (Below w.heap.size w v6) := hbL.out.trans (hB.mono hbL.out.size)
      clear hB hbL
      go_wp2_with fail
      refine (err_ok9 _ (HG.out.below hb15.out HG.out.pos)).mono ?_
      rintro e v7 ⟨rfl, hB⟩
      have z16 : v6.heap.size ≤ v7.heap.size := hB.size
      have hb17 : Hid (Below w.heap.size w v7) := hb15.out.trans (hB.mono hb15.out.size)
      clear hB hb15
      go_wp2_with fail
      go_ret
      exact ⟨rfl, hb17.out⟩
theorem pcycles_walk (HY : CPy) (HS : CPs) (a1 : Option Addr) (c1 : Nat) (p1 : List Int) (x1 : p1.length ≤ 9223372036854775807) (T1 : ∀ j, In64 (nth p1 j)) (w : World) (hg : HasErr w) (w1 : IsInts w.heap.size w a1 p1) :
    Calls Tryd.prog 5 #[.slice a1 p1.length c1] w fun e w' => e = .returned (.bool true) ∧ Below w.heap.size w w' := by
  by_cases h1 : orE p1 = 0
  · exact cycles_ok HY HS a1 c1 p1 x1 T1 w hg w1 h1
  · exact cycles_no HY HS a1 c1 p1 x1 T1 w hg w1 h1
end Go.Proofs.YtcblakcaoecgpaaDoor
