/-
  What the document's answer says of which cells another array has.
-/
import Derived.Test.YteieliajdfbipaaDoorRsh
import Derived.Test.YteieliajdfbipaaDoorRmove
import Derived.Deep.QuietTactic
import Derived.BigQuiet
import Derived.WalkSmall
import Derived.Deep.RegionWith
import Derived.Deep.RegionHeld3
namespace Go.Proofs.YteieliajdfbipaaDoor
open Go.RowKit
set_option linter.unusedVariables false

set_option maxRecDepth 100000 in
set_option maxHeartbeats 8000000 in
theorem among_any (c : Bool) (sa : Option Addr) (sc : Nat) (sz : List Int) (da : Option Addr) (dc : Nat) (dz : List Int) (c' : Bool) (sa' : Option Addr) (sc' : Nat) (sz' : List Int) (da' : Option Addr) (dc' : Nat) (dz' : List Int) (h1 : sz.length ≤ 9223372036854775807) (h2 : dz.length ≤ 9223372036854775807) (h1' : sz'.length ≤ 9223372036854775807) (h2' : dz'.length ≤ 9223372036854775807) (w : World) (hs : IsInts w.heap.size w sa sz) (hd : IsInts w.heap.size w da dz) (hs' : IsInts w.heap.size w sa' sz') (hd' : IsInts w.heap.size w da' dz') :
    Calls Tryd.prog 9 #[.agg #[.bool c, .slice sa sz.length sc, .slice da dz.length dc], .agg #[.bool c', .slice sa' sz'.length sc', .slice da' dz'.length dc']] w (UR (flawsE c sz dz c' sz' dz') (onc (flawsE c sz dz c' sz' dz') false) (onl (flawsE c sz dz c' sz' dz') sz) (onl (flawsE c sz dz c' sz' dz') (inD c dz c' dz')) w) := by
  have HI : Hid (IsInts w.heap.size w sa sz ∧ IsInts w.heap.size w da dz ∧ IsInts w.heap.size w sa' sz' ∧ IsInts w.heap.size w da' dz') := ⟨hs, hd, hs', hd'⟩
  clear hs hd hs' hd'
  have HB0 : Hid (Below w.heap.size w (((w.alloc (.cells #[.bool c, .slice sa sz.length sc, .slice da dz.length dc] 24)).alloc (.cells #[.bool c', .slice sa' sz'.length sc', .slice da' dz'.length dc'] 24)).alloc (.cells #[.bool false, .slice none 0 0, .slice none 0 0] 24))) := (((Below.refl _ w).alloc (Nat.le_refl _) _).alloc (by simp) _).alloc (by simp; omega) _
  have HP0 : Hid (Abx (((w.alloc (.cells #[.bool c, .slice sa sz.length sc, .slice da dz.length dc] 24)).alloc (.cells #[.bool c', .slice sa' sz'.length sc', .slice da' dz'.length dc'] 24)).alloc (.cells #[.bool false, .slice none 0 0, .slice none 0 0] 24)) w.heap.size (.bool c) (.slice sa sz.length sc) (.slice da dz.length dc)) := ((Abx.new w (.bool c) (.slice sa sz.length sc) (.slice da dz.length dc)).al _).al _
  have HQ0 : Hid (Abx (((w.alloc (.cells #[.bool c, .slice sa sz.length sc, .slice da dz.length dc] 24)).alloc (.cells #[.bool c', .slice sa' sz'.length sc', .slice da' dz'.length dc'] 24)).alloc (.cells #[.bool false, .slice none 0 0, .slice none 0 0] 24)) (w.heap.size + 1) (.bool c') (.slice sa' sz'.length sc') (.slice da' dz'.length dc')) := (Abx.new1 w (.cells #[.bool c, .slice sa sz.length sc, .slice da dz.length dc] 24) (.bool c') (.slice sa' sz'.length sc') (.slice da' dz'.length dc')).al _
  have HR0 : Hid (Abx (((w.alloc (.cells #[.bool c, .slice sa sz.length sc, .slice da dz.length dc] 24)).alloc (.cells #[.bool c', .slice sa' sz'.length sc', .slice da' dz'.length dc'] 24)).alloc (.cells #[.bool false, .slice none 0 0, .slice none 0 0] 24)) (w.heap.size + 1 + 1) (.bool false) (.slice none 0 0) (.slice none 0 0)) := by
    have h := Abx.new ((w.alloc (.cells #[.bool c, .slice sa sz.length sc, .slice da dz.length dc] 24)).alloc (.cells #[.bool c', .slice sa' sz'.length sc', .slice da' dz'.length dc'] 24)) (.bool false) (.slice none 0 0) (.slice none 0 0)
    simp only [World.size_alloc] at h
    exact h
  have p0 := HP0.out.c0
  have p1 := HP0.out.c1
  have p2 := HP0.out.c2
  have q0 := HQ0.out.c0
  have q1 := HQ0.out.c1
  have q2 := HQ0.out.c2
  go_enter Tryd.func9, Tryd.ntmps9
  go_wp2_with fail
  refine (flaws_any c c' sa sc sz da dc dz sa' sc' sz' da' dc' dz' h1 h2 h1' h2' _ ((HI.out.1.below HB0.out).mono HB0.out.size) ((HI.out.2.1.below HB0.out).mono HB0.out.size) ((HI.out.2.2.1.below HB0.out).mono HB0.out.size) ((HI.out.2.2.2.below HB0.out).mono HB0.out.size)).mono ?_
  rintro e v1 ⟨rfl, hC⟩
  have HB1 : Hid (Below w.heap.size w v1) := HB0.out.trans (hC.mono HB0.out.size)
  have HP1 : Hid (Abx v1 w.heap.size (.bool c) (.slice sa sz.length sc) (.slice da dz.length dc)) := HP0.out.go hC
  have HQ1 : Hid (Abx v1 (w.heap.size + 1) (.bool c') (.slice sa' sz'.length sc') (.slice da' dz'.length dc')) := HQ0.out.go hC
  have HR1 : Hid (Abx v1 (w.heap.size + 1 + 1) (.bool false) (.slice none 0 0) (.slice none 0 0)) := HR0.out.go hC
  have hR1 : w.heap.size + 1 + 1 < v1.heap.size := HR1.out.lt
  clear hC p0 p1 p2 q0 q1 q2 HB0 HP0 HQ0 HR0
  by_cases he : flawsE c sz dz c' sz' dz' = 0
  · rw [he]
    have HE : Hid (flawsE c sz dz c' sz' dz' = 0) := he
    have hs6 : sz.length ≤ 6 := (flawE_short (flawsE_zero.1 he).1).1
    have hd4 : dz.length ≤ 4096 := (flawE_short (flawsE_zero.1 he).1).2
    obtain ⟨D, hD⟩ : ∃ D, D = inD c dz c' dz' := ⟨_, rfl⟩
    have HD : Hid (D = inD c dz c' dz' ∧ D.length = dz.length ∧ ∀ k, k < dz.length → (if hsB c' dz' c (nth dz k) = true then (1 : Int) else 0) = nth D k) := ⟨hD, by rw [hD, inD_length], fun k hk => by rw [hD, inD_nth hk]⟩
    have hDl : D.length ≤ dz.length ∧ dz.length ≤ D.length := by have := HD.out.2.1; omega
    have a1 := HP1.out.c1
    clear he hD
    go_wp2_with fail
    refine (copied_any sa sc sz (by omega) v1 ((HI.out.1.below HB1.out).mono HB1.out.size)).mono ?_
    rintro e v2 ⟨g, gc, rfl, hN, hC⟩
    have HB2 : Hid (Below w.heap.size w v2) := HB1.out.trans (hC.mono HB1.out.size)
    have HP2 : Hid (Abx v2 w.heap.size (.bool c) (.slice sa sz.length sc) (.slice da dz.length dc)) := HP1.out.go hC
    have HQ2 : Hid (Abx v2 (w.heap.size + 1) (.bool c') (.slice sa' sz'.length sc') (.slice da' dz'.length dc')) := HQ1.out.go hC
    have HR2 : Hid (Abx v2 (w.heap.size + 1 + 1) (.bool false) (.slice none 0 0) (.slice none 0 0)) := HR1.out.go hC
    have hR2 : w.heap.size + 1 + 1 < v2.heap.size := HR2.out.lt
    have hv12 : v1.heap.size ≤ v2.heap.size := hC.size
    clear hC a1
    obtain ⟨B, hB⟩ : ∃ B, B = v2.heap.size := ⟨_, rfl⟩
    obtain ⟨v3, hv3⟩ : ∃ v3, v3 = v2.alloc (.cells #[.bool false, .slice g sz.length gc, .slice none 0 0] 24) := ⟨_, rfl⟩
    have HV3 : Hid (v3 = v2.alloc (.cells #[.bool false, .slice g sz.length gc, .slice none 0 0] 24) ∧ B = v2.heap.size) := ⟨hv3, hB⟩
    have HO : Hid (Abx v3 w.heap.size (.bool c) (.slice sa sz.length sc) (.slice da dz.length dc) ∧ Abx v3 (w.heap.size + 1) (.bool c') (.slice sa' sz'.length sc') (.slice da' dz'.length dc') ∧ Abx v3 (w.heap.size + 1 + 1) (.bool false) (.slice none 0 0) (.slice none 0 0) ∧ Abx v3 B (.bool false) (.slice g sz.length gc) (.slice none 0 0) ∧ SepInts v1.heap.size v3.heap.size B v3 g sz ∧ Below w.heap.size w v3) := by
      rw [hv3, hB]
      exact ⟨HP2.out.al _, HQ2.out.al _, HR2.out.al _, Abx.new v2 _ _ _, ((SepInts.of_new hN (.inr (Nat.le_refl _))).al (Nat.le_refl _) _).high (by simp), HB2.out.alloc HB2.out.size _⟩
    have hBl : w.heap.size + 1 + 1 < B := by rw [hB]; exact hR2
    have hB3 : B < v3.heap.size := HO.out.2.2.2.1.lt
    have hv13 : v1.heap.size ≤ v3.heap.size := by rw [hv3]; simp; omega
    clear hN hv3 hB
    go_wp2_with fail
    rw [← HV3.out.2, ← HV3.out.1]
    go_loopw [8] (fun i wx => ∃ (k : Nat) (v : Value), k ≤ dz.length ∧ i = .int .i64 k ∧ Abx wx w.heap.size (.bool c) (.slice sa sz.length sc) (.slice da dz.length dc) ∧ Abx wx (w.heap.size + 1) (.bool c') (.slice sa' sz'.length sc') (.slice da' dz'.length dc') ∧ Abx wx (w.heap.size + 1 + 1) (.bool false) (.slice none 0 0) (.slice none 0 0) ∧ Abx wx B (.bool false) (.slice g sz.length gc) v ∧ wx.ownsRow v3.heap.size 3 1 v (D.take k).length ((D.take k).map (Value.int .i64)) ∧ SepInts v1.heap.size v3.heap.size B wx g sz ∧ v3.heap.size ≤ wx.heap.size ∧ Below w.heap.size w wx) (fun i _ => dz.length - (intOf i).toNat)
    case atStart => exact ⟨0, .slice none 0 0, Nat.zero_le _, rfl, HO.out.1, HO.out.2.1, HO.out.2.2.1, HO.out.2.2.2.1, World.ownsRow_nil _ _ _ _, HO.out.2.2.2.2.1, Nat.le_refl _, HO.out.2.2.2.2.2⟩
    case round =>
      obtain ⟨k, v, hk, rfl, hP, hQ, hR, hU, hown, hSp, hsx, hBx⟩ := hrel
      by_cases hlt : k < dz.length
      · have HQ : Hid (Abx wr w.heap.size (.bool c) (.slice sa sz.length sc) (.slice da dz.length dc) ∧ Abx wr (w.heap.size + 1) (.bool c') (.slice sa' sz'.length sc') (.slice da' dz'.length dc') ∧ Abx wr (w.heap.size + 1 + 1) (.bool false) (.slice none 0 0) (.slice none 0 0) ∧ Abx wr B (.bool false) (.slice g sz.length gc) v ∧ SepInts v1.heap.size v3.heap.size B wr g sz ∧ Below w.heap.size w wr ∧ wr.ownsRow v3.heap.size 3 1 v (D.take k).length ((D.take k).map (Value.int .i64))) := ⟨hP, hQ, hR, hU, hSp, hBx, hown⟩
        have a0 := hP.c0
        have a2 := hP.c2
        have b0 := hQ.c0
        have b1 := hQ.c1
        have b2 := hQ.c2
        have o2 := hU.c2
        have hkD : k ≤ D.length := by omega
        have HJ : Hid (IsInts wr.heap.size wr da' dz') := (HI.out.2.2.2.below hBx).mono hBx.size
        obtain ⟨be, oe, rfl, hbe, hcE⟩ := (HI.out.2.1.below hBx).at hlt
        have ce := hcE k hlt
        have hwr : w.heap.size ≤ wr.heap.size := hBx.size
        have HV : Hid ((if hsB c' dz' c (nth dz k) = true then (1 : Int) else 0) = nth D k) := HD.out.2.2 k hlt
        clear hP hQ hR hU hown hSp hBx hcE
        go_wp2_with fail
        refine anyT_begin 14 (fun w' => w'.cell? ⟨B, 2, none⟩ = some v ∧ w'.cell? ⟨w.heap.size + 1, 0, none⟩ = some (.bool c') ∧ w'.cell? ⟨w.heap.size + 1, 1, none⟩ = some (.slice sa' sz'.length sc') ∧ w'.cell? ⟨w.heap.size + 1, 2, none⟩ = some (.slice da' dz'.length dc') ∧ w'.cell? ⟨w.heap.size, 0, none⟩ = some (.bool c) ∧ w'.cell? ⟨w.heap.size, 2, none⟩ = some (.slice (some ⟨be, oe, none⟩) dz.length dc) ∧ w'.cell? ⟨be, oe + k, none⟩ = some (.int .i64 (nth dz k))) 16 #[false, false, false, false, false, false, false, false, false, false, false, false, false, false, false, false] (by kernel_rfl) rfl rfl ?_
        refine anyT_put 0 27 ?rv10 #[true, false, false, false, false, false, false, false, false, false, false, false, false, false, false, false] rfl rfl rfl (by kernel_rfl) (by kernel_rfl) (by kernel_rfl) (fun _ _ _ h => h) (by decide) ?ry10 (fun _ => ⟨o2, b0, b1, b2, a0, a2, ce⟩) ?rm10
        case ry10 => first | exact Or.inl ⟨by rfl, by intro w'; go_simp; first | done | rfl⟩
        case rm10 =>
        simp only [Act.put, List.setIfInBounds_toArray, List.set_cons_zero, List.set_cons_succ]
        refine anyT_take 1 28 ?rv11 #[true, true, false, false, false, false, false, false, false, false, false, false, false, false, false, false] rfl rfl rfl (by kernel_rfl) (by kernel_rfl) (by kernel_rfl) (fun _ _ _ h => h) (by kernel_rfl) (by decide) (by kernel_rfl) ?ry11 (⟨o2, b0, b1, b2, a0, a2, ce⟩) ?rm11
        case ry11 => first | exact Or.inl ⟨by rfl, by intro w' hw'; (try dsimp only at hw'); go_simp; first | done | rfl⟩
        case rm11 =>
        simp only [Act.put, List.setIfInBounds_toArray, List.set_cons_zero, List.set_cons_succ]
        refine anyT_take 2 29 ?rv12 #[true, true, true, false, false, false, false, false, false, false, false, false, false, false, false, false] rfl rfl rfl (by kernel_rfl) (by kernel_rfl) (by kernel_rfl) (fun _ _ _ h => h) (by kernel_rfl) (by decide) (by kernel_rfl) ?ry12 (⟨o2, b0, b1, b2, a0, a2, ce⟩) ?rm12
        case ry12 => first | exact Or.inl ⟨by rfl, by intro w' hw'; (try dsimp only at hw'); go_simp; first | done | rfl⟩
        case rm12 =>
        simp only [Act.put, List.setIfInBounds_toArray, List.set_cons_zero, List.set_cons_succ]
        refine anyT_put 3 30 ?rv13 #[true, true, true, true, false, false, false, false, false, false, false, false, false, false, false, false] rfl rfl rfl (by kernel_rfl) (by kernel_rfl) (by kernel_rfl) (fun _ _ _ h => h) (by decide) ?ry13 (fun _ => ⟨o2, b0, b1, b2, a0, a2, ce⟩) ?rm13
        case ry13 => first | exact Or.inl ⟨by rfl, by intro w'; go_simp; first | done | rfl⟩
        case rm13 =>
        simp only [Act.put, List.setIfInBounds_toArray, List.set_cons_zero, List.set_cons_succ]
        refine anyT_take 4 31 ?rv14 #[true, true, true, true, true, false, false, false, false, false, false, false, false, false, false, false] rfl rfl rfl (by kernel_rfl) (by kernel_rfl) (by kernel_rfl) (fun _ _ _ h => h) (by kernel_rfl) (by decide) (by kernel_rfl) ?ry14 (⟨o2, b0, b1, b2, a0, a2, ce⟩) ?rm14
        case ry14 => first | exact Or.inl ⟨by rfl, by intro w' hw'; (try dsimp only at hw'); go_simp; first | done | rfl⟩
        case rm14 =>
        simp only [Act.put, List.setIfInBounds_toArray, List.set_cons_zero, List.set_cons_succ]
        refine anyT_put 5 32 ?rv15 #[true, true, true, true, true, true, false, false, false, false, false, false, false, false, false, false] rfl rfl rfl (by kernel_rfl) (by kernel_rfl) (by kernel_rfl) (fun _ _ _ h => h) (by decide) ?ry15 (fun _ => ⟨o2, b0, b1, b2, a0, a2, ce⟩) ?rm15
        case ry15 => first | exact Or.inl ⟨by rfl, by intro w'; go_simp; first | done | rfl⟩
        case rm15 =>
        simp only [Act.put, List.setIfInBounds_toArray, List.set_cons_zero, List.set_cons_succ]
        refine anyT_take 6 33 ?rv16 #[true, true, true, true, true, true, true, false, false, false, false, false, false, false, false, false] rfl rfl rfl (by kernel_rfl) (by kernel_rfl) (by kernel_rfl) (fun _ _ _ h => h) (by kernel_rfl) (by decide) (by kernel_rfl) ?ry16 (⟨o2, b0, b1, b2, a0, a2, ce⟩) ?rm16
        case ry16 => first | exact Or.inl ⟨by rfl, by intro w' hw'; (try dsimp only at hw'); go_simp; first | done | rfl⟩
        case rm16 =>
        simp only [Act.put, List.setIfInBounds_toArray, List.set_cons_zero, List.set_cons_succ]
        refine anyT_put 7 34 ?rv17 #[true, true, true, true, true, true, true, true, false, false, false, false, false, false, false, false] rfl rfl rfl (by kernel_rfl) (by kernel_rfl) (by kernel_rfl) (fun _ _ _ h => h) (by decide) ?ry17 (fun _ => ⟨o2, b0, b1, b2, a0, a2, ce⟩) ?rm17
        case ry17 => first | exact Or.inl ⟨by rfl, by intro w'; go_simp; first | done | rfl⟩
        case rm17 =>
        simp only [Act.put, List.setIfInBounds_toArray, List.set_cons_zero, List.set_cons_succ]
        refine anyT_put 8 35 ?rv18 #[true, true, true, true, true, true, true, true, true, false, false, false, false, false, false, false] rfl rfl rfl (by kernel_rfl) (by kernel_rfl) (by kernel_rfl) (fun _ _ _ h => h) (by decide) ?ry18 (fun _ => ⟨o2, b0, b1, b2, a0, a2, ce⟩) ?rm18
        case ry18 => first | exact Or.inl ⟨by rfl, by intro w'; go_simp; first | done | rfl⟩
        case rm18 =>
        simp only [Act.put, List.setIfInBounds_toArray, List.set_cons_zero, List.set_cons_succ]
        refine anyT_take 9 36 ?rv19 #[true, true, true, true, true, true, true, true, true, true, false, false, false, false, false, false] rfl rfl rfl (by kernel_rfl) (by kernel_rfl) (by kernel_rfl) (fun _ _ _ h => h) (by kernel_rfl) (by decide) (by kernel_rfl) ?ry19 (⟨o2, b0, b1, b2, a0, a2, ce⟩) ?rm19
        case ry19 => first | exact Or.inl ⟨by rfl, by intro w' hw'; (try dsimp only at hw'); go_simp; first | done | rfl⟩
        case rm19 =>
        simp only [Act.put, List.setIfInBounds_toArray, List.set_cons_zero, List.set_cons_succ]
        refine anyT_one 10 #[true, true, true, true, true, true, true, true, true, true, true, false, false, false, false, false] (by kernel_rfl) rfl rfl (fun K hK => ?_)
        go_simp
        have hh := hs_any c' sa' sc' sz'.length da' dc' dz' c (nth dz k) h2' wr.drew HJ.out
        go_wp2_with (go_at_call 28; refine hh.mono ?_; rintro e w2 ⟨rfl, hB2⟩)
        clear hh
        have hB2' : Below wr.heap.size wr w2 := (Below.refl wr.heap.size wr).drew.trans hB2
        have P2 := HQ.out.1.go hB2'
        have Q2 := HQ.out.2.1.go hB2'
        have R2 := HQ.out.2.2.1.go hB2'
        have U2 := HQ.out.2.2.2.1.go hB2'
        have E2 : w2.cell? ⟨be, oe + k, none⟩ = some (.int .i64 (nth dz k)) := (hB2'.cell (p := ⟨be, oe + k, none⟩) (by show be < wr.heap.size; omega)).trans ce
        refine hK.out _ _ (fun _ => ⟨U2.c2, Q2.c0, Q2.c1, Q2.c2, P2.c0, P2.c2, E2⟩) ?_
        clear hK K
        refine anyT_one 11 #[true, true, true, true, true, true, true, true, true, true, true, true, false, false, false, false] (by kernel_rfl) rfl rfl (fun K hK => ?_)
        go_simp
        have ht := truth_any (hsB c' dz' c (nth dz k)) w2
        rw [HV.out] at ht
        go_wp2_with (go_at_call 27; refine ht.mono ?_; rintro e w3 ⟨rfl, hw3⟩; subst hw3)
        clear ht
        refine hK.out _ _ (fun _ => ⟨U2.c2, Q2.c0, Q2.c1, Q2.c2, P2.c0, P2.c2, E2⟩) ?_
        clear hK K
        refine anyT_one 12 #[true, true, true, true, true, true, true, true, true, true, true, true, true, false, false, false] (by kernel_rfl) rfl rfl (fun K hK => ?_)
        go_simp
        have P3 := P2.al (.cells #[.int .i64 (nth D k)] 3)
        have Q3 := Q2.al (.cells #[.int .i64 (nth D k)] 3)
        have R3 := R2.al (.cells #[.int .i64 (nth D k)] 3)
        have U3 := U2.al (.cells #[.int .i64 (nth D k)] 3)
        have E3 : (w3.alloc (.cells #[.int .i64 (nth D k)] 3)).cell? ⟨be, oe + k, none⟩ = some (.int .i64 (nth dz k)) := (World.cell?_alloc_lt w3 _ ⟨be, oe + k, none⟩ (by have := hB2'.size; show be < w3.heap.size; omega)).trans E2
        refine hK.out _ _ (fun _ => ⟨U3.c2, Q3.c0, Q3.c1, Q3.c2, P3.c0, P3.c2, E3⟩) ?_
        clear hK K
        refine anyT_one 13 #[true, true, true, true, true, true, true, true, true, true, true, true, true, true, false, false] (by kernel_rfl) rfl rfl (fun K hK => ?_)
        refine app_step 40 rfl rfl _ _ rfl _ v3.heap.size w3.heap.size v (D.take k) (nth D k) rfl rfl ((own_go HQ.out.2.2.2.2.2.2 hB2').alloc _) (heap_alloc_new w3 _) (by rw [take_lenR _ hkD]; omega) (by rw [World.size_alloc]; have := hB2'.size; omega) ?_
        intro g1 gc1 w4 hown1 hB4
        have hs2 := hB2'.size
        have P7 := P3.bel hB4 (by omega)
        have Q7 := Q3.bel hB4 (by omega)
        have R7 := R3.bel hB4 (by omega)
        have HO1 : Hid (Abx w4 B (.bool false) (.slice g sz.length gc) v) := U3.bel hB4 (by omega)
        have x2 := HO1.out.c2
        have xf := HO1.out.fr 2
        have xd : w4.cell? ⟨be, oe + k, none⟩ = some (.int .i64 (nth dz k)) := (hB4.cell (p := ⟨be, oe + k, none⟩) (by show be < _; omega)).trans E3
        refine hK.out _ _ (fun _ => ⟨x2, Q7.c0, Q7.c1, Q7.c2, P7.c0, P7.c2, xd⟩) ?_
        clear hK K
        simp only [Act.put, List.setIfInBounds_toArray, List.set_cons_zero, List.set_cons_succ]
        refine anyT_one 14 #[true, true, true, true, true, true, true, true, true, true, true, true, true, true, true, false] (by kernel_rfl) rfl rfl (fun K hK => ?_)
        go_simp
        refine hK.out _ _ (fun h => absurd h (by decide)) ?_
        clear hK K
        refine anyT_one 15 #[true, true, true, true, true, true, true, true, true, true, true, true, true, true, true, true] (by kernel_rfl) rfl rfl (fun K hK => ?_)
        go_simp
        refine hK.out _ _ (fun h => absurd h (by decide)) ?_
        clear hK K
        refine anyT_done (by kernel_rfl) ?_
        go_wp2_with fail
        rw [← take_snoc D k (by omega), take_lenR D hkD] at hown1
        have hz4 := hB4.size
        rw [World.size_alloc] at hz4
        have S7 : SepInts v1.heap.size v3.heap.size B w4 g sz := ((HQ.out.2.2.2.2.1.bel (hB2'.mono (by omega))).al (by omega) _).bel hB4
        have Z7 : Below w.heap.size w w4 := ((HQ.out.2.2.2.2.2.1.trans (hB2'.mono hwr)).alloc (by omega) _).trans (hB4.mono (by omega))
        refine ⟨⟨k + 1, .slice (some ⟨g1, 0, none⟩) (k + 1) gc1, by omega, by go_num, P7.ot (by show w.heap.size ≠ B; omega) _, Q7.ot (by show w.heap.size + 1 ≠ B; omega) _, R7.ot (by show w.heap.size + 1 + 1 ≠ B; omega) _, HO1.out.s2 _, ?_, S7.set 2 _, by simp [World.setCell]; omega, Z7.setCell (p := ⟨B, 2, none⟩) (by show w.heap.size ≤ B; omega) _⟩, by simp [intOf]; omega⟩
        rw [take_lenR D (show k + 1 ≤ D.length by omega)]
        exact ownsRow_setCell_below hown1 (by show B < v3.heap.size; omega) _
      · obtain rfl : k = dz.length := by omega
        rw [List.take_of_length_le (by omega)] at hown
        obtain ⟨g1, gc1, rfl, hN1⟩ := owns_new hown
        have o0 := hU.c0
        have o1 := hU.c1
        have o2 := hU.c2
        have d2 := hP.c2
        have r_0 := hR.c0
        have r_1 := hR.c1
        have r_2 := hR.c2
        have f_0 := hR.fr 0
        have f_1 := hR.fr 1
        have f_2 := hR.fr 2
        clear hown hlt
        go_wp2_with fail
        have FF := hR.set3 (.bool false) (.slice g sz.length gc) (.slice g1 D.length gc1)
        have q0' := FF.c0
        have q1' := FF.c1
        have q2' := FF.c2
        refine bodyPost_ret (v := .tuple #[.agg #[.bool false, .slice g sz.length gc, .slice g1 D.length gc1], .int .i64 0]) (by simp [results, Tryd.results9, go_sem, q0', q1', q2']) rfl ?_
        have hX := ((hSp.new hsx).set3 (b := w.heap.size + 1 + 1) (by omega) (.bool false) (.slice g sz.length gc) (.slice g1 D.length gc1)).low (lo' := w.heap.size) (by omega)
        have hY := (hN1.set3 (b := w.heap.size + 1 + 1) (by omega) (.bool false) (.slice g sz.length gc) (.slice g1 D.length gc1)).low (lo' := w.heap.size) (by omega)
        have hZ := bel_set3 hBx (b := w.heap.size + 1 + 1) (by omega) (.bool false) (.slice g sz.length gc) (.slice g1 D.length gc1)
        have hUR := UR.ok (c := false) (xc := gc) (yc := gc1) HE.out hX hY hZ
        have hE2 := HD.out.1
        rw [← hE2]
        exact hUR
  · have t0 : (flawsE c sz dz c' sz' dz' != 0) = true := by simpa using he
    have HA : Hid (flawsE c sz dz c' sz' dz' ≠ 0) := he
    clear he
    have r_0 := HR1.out.c0
    have r_1 := HR1.out.c1
    have r_2 := HR1.out.c2
    have f_0 := HR1.out.fr 0
    have f_1 := HR1.out.fr 1
    have f_2 := HR1.out.fr 2
    go_wp2_with fail
    have FF := HR1.out.set3 (.bool false) (.slice none 0 0) (.slice none 0 0)
    have q0' := FF.c0
    have q1' := FF.c1
    have q2' := FF.c2
    exact bodyPost_ret (v := .tuple #[.agg #[.bool false, .slice none 0 0, .slice none 0 0], .int .i64 (flawsE c sz dz c' sz' dz')]) (by simp [results, Tryd.results9, go_sem, q0', q1', q2']) rfl (UR.no rfl HA.out (bel_set3 HB1.out (by omega) _ _ _))
end Go.Proofs.YteieliajdfbipaaDoor
