/-
  The reference's part of an array: in a shape, from indices on, fills outside.
-/
import Derived.Deep.DeepCutAuto
import Derived.Test.YtldjgacnjogbnaaDoorRmove
import Derived.Test.YtldjgacnjogbnaaDoorCutm
import Derived.Test.YtldjgacnjogbnaaDoorFault
namespace Go.Proofs.YtldjgacnjogbnaaDoor
open Go.RowKit
set_option linter.unusedVariables false

theorem fillr_any (c : Bool) (sa : Option Addr) (sc : Nat) (sz : List Int) (da : Option Addr) (dc : Nat) (dz : List Int) (w : World) :
    Calls Tryd.prog 42 #[.agg #[.bool c, .slice sa sz.length sc, .slice da dz.length dc]] w fun e w' => e = .returned (.int .i64 (fillE c)) ∧ Below w.heap.size w w' := by
  cases c
  all_goals
    go_enter Tryd.func42, Tryd.ntmps42
    go_wp2_with fail
    go_ret
    exact ⟨rfl, (Below.refl _ w).alloc (Nat.le_refl _) _⟩
/-- The first j indices moved. -/
def addJ (t u : List Int) (j : Nat) : List Int := (List.range t.length).map fun k => if k < j then nth t k + nth u k else nth t k
theorem addJ_length (t u : List Int) (j : Nat) : (addJ t u j).length = t.length := by simp [addJ]
theorem addJ_nth (t u : List Int) (j : Nat) {k : Nat} (h : k < t.length) : nth (addJ t u j) k = if k < j then nth t k + nth u k else nth t k := by simp [addJ, nth, h]
theorem addJ_zero (t u : List Int) : addJ t u 0 = t := nth_ext (addJ_length t u 0) fun k hk => by rw [addJ_length] at hk; rw [addJ_nth t u 0 hk, if_neg (by omega)]
theorem addJ_all (t u : List Int) : addJ t u t.length = addL t u := nth_ext (by rw [addJ_length, addL_length]) fun k hk => by rw [addJ_length] at hk; rw [addJ_nth t u _ hk, if_pos hk, addL_nth t u hk]
theorem addJ_set (t u : List Int) {j : Nat} (hj : j < t.length) : (addJ t u j).set j (nth t j + nth u j) = addJ t u (j + 1) := nth_ext (by rw [List.length_set, addJ_length, addJ_length]) fun k hk => by
  rw [List.length_set, addJ_length] at hk
  rw [nth_set _ _ _ _ (by rw [addJ_length]; exact hj), addJ_nth t u _ hk, addJ_nth t u _ hk]
  by_cases e : k = j
  · subst e; rw [if_pos rfl, if_pos (by omega)]
  · rw [if_neg e]
    by_cases h : k < j
    · rw [if_pos h, if_pos (by omega)]
    · rw [if_neg h, if_neg (by omega)]
theorem NewInts.put {lo : Nat} {W : World} {b off : Nat} {zs : List Int} (h : NewInts lo W (some ⟨b, off, none⟩) zs) {i : Nat} (hi' : i < zs.length) (x : Int) : NewInts lo (W.setCell ⟨b, off + i, none⟩ (.int .i64 x)) (some ⟨b, off, none⟩) (zs.set i x) :=
  (h.mid.put hi' x).new (by simp [World.setCell])
theorem coords_n (a : Option Addr) (cap : Nat) (zs : List Int) (n p : Nat) (hn : zs.length = n) (he : errOf zs = 0) (hp : (p : Int) < prod zs) (w : World) (hI : IsInts w.heap.size w a zs) :
    Calls Tryd.prog 30 #[.slice a n cap, .int .i64 (p : Int)] w fun e w' => ∃ g c, e = .returned (.slice g n c) ∧ NewInts w.heap.size w' g (cr zs p) ∧ Below w.heap.size w w' := by
  have h := coords_new a cap zs p he hp w hI
  rw [cr_length, hn] at h
  exact h
theorem inside_n (a : Option Addr) (cap : Nat) (zs : List Int) (a' : Option Addr) (cap' n : Nat) (ts : List Int) (hn : ts.length = n) (hreach : zs.length ≤ 9223372036854775807) (hl : ts.length = zs.length) (n₀ : Nat) (w : World) (hI : IsInts n₀ w a zs) (hI' : IsInts n₀ w a' ts) :
    Calls Tryd.prog 44 #[.slice a zs.length cap, .slice a' n cap'] w fun e w' => e = .returned (.bool (insB zs ts)) ∧ Below w.heap.size w w' := by
  subst hn
  exact inside_any a cap zs a' cap' ts hreach hl n₀ w hI hI'
theorem cells_n (a : Option Addr) (cap : Nat) (zs : List Int) (n q : Nat) (hn : zs.length = n) (hq : prod zs = q) (hreach : zs.length ≤ 9223372036854775807) (he : errOf zs = 0) (n₀ : Nat) (w : World) (hI : IsInts n₀ w a zs) :
    Calls Tryd.prog 29 #[.slice a n cap] w fun e w' => e = .returned (.int .i64 (q : Nat)) ∧ w' = w := by
  subst hn
  rw [← hq]
  exact cells_any a cap zs hreach he n₀ w hI
theorem copied_n (a : Option Addr) (cap : Nat) (zs : List Int) (n : Nat) (hn : zs.length = n) (h1 : zs.length ≤ 100000) (w : World) (hI : IsInts w.heap.size w a zs) :
    Calls Tryd.prog 28 #[.slice a n cap] w fun e w' => ∃ g c, e = .returned (.slice g n c) ∧ NewInts w.heap.size w' g zs ∧ Below w.heap.size w w' := by
  subst hn
  exact copied_any a cap zs h1 w hI
/-- What Part tells. -/
def UPt (c : Bool) (S D : List Int) (w : World) (r : Ending) (w' : World) : Prop :=
  ∃ xa xc ya yc, r = .returned (.agg #[.bool c, .slice xa S.length xc, .slice ya D.length yc]) ∧ NewInts w.heap.size w' xa S ∧ NewInts w.heap.size w' ya D ∧ Below w.heap.size w w'
/-- The array that is made, as far as it is. -/
def Out6 (v1 : World) (B : Nat) (c : Bool) (g : Option Addr) (gc n : Nat) (S : List Int) (wc : World) : Prop :=
  v1.heap.size ≤ B ∧ Abx wc B (.bool c) (.slice g n gc) (.slice none 0 0) ∧ SepInts v1.heap.size wc.heap.size B wc g S ∧ Below v1.heap.size v1 wc
theorem out6_a {v1 w2 : World} {c : Bool} {g : Option Addr} {gc n : Nat} {S : List Int} (hG : NewInts v1.heap.size w2 g S) (hB : Below v1.heap.size v1 w2) :
    Out6 v1 w2.heap.size c g gc n S (w2.alloc (.cells #[.bool c, .slice g n gc, .slice none 0 0] 24)) :=
  ⟨hB.size, Abx.new w2 _ _ _, ((SepInts.of_new hG (.inr (Nat.le_refl _))).al (Nat.le_refl _) _).high (by simp), hB.alloc hB.size _⟩
theorem out6_b {v1 w2 : World} {c : Bool} {g : Option Addr} {gc n : Nat} {S : List Int} (hG : NewInts (v1.heap.size + 1) w2 g S) (hR : Abx w2 v1.heap.size (.bool false) (.slice none 0 0) (.slice none 0 0)) (hB : Below v1.heap.size v1 w2) :
    Out6 v1 v1.heap.size c g gc n S (((w2.setCell ⟨v1.heap.size, 0, none⟩ (.bool c)).setCell ⟨v1.heap.size, 1, none⟩ (.slice g n gc)).setCell ⟨v1.heap.size, 2, none⟩ (.slice none 0 0)) :=
  ⟨Nat.le_refl _, hR.set3 _ _ _, (((((SepInts.of_new hG (.inl (Nat.lt_succ_self _))).low (Nat.le_succ _)).set 0 _).set 1 _).set 2 _).high (by rw [size_set3]; exact Nat.le_refl _), bel_set3 hB (Nat.le_refl _) _ _ _⟩
set_option maxRecDepth 100000 in
set_option maxHeartbeats 8000000 in
theorem part_n (c : Bool) (sa : Option Addr) (sc : Nat) (sz : List Int) (da : Option Addr) (dc : Nat) (dz : List Int) (a1 : Option Addr) (k1 : Nat) (S : List Int) (a2 : Option Addr) (k2 : Nat) (U : List Int) (n q : Nat) (hSn : S.length = n) (hUn : U.length = n) (hq : prod S = q) (hf : flawE c sz dz = 0) (hE : errOf S = 0) (hl : n = sz.length) (hU : ∀ k, -8192 ≤ nth U k ∧ nth U k ≤ 8192) (w : World) (hs : IsInts w.heap.size w sa sz) (hd : IsInts w.heap.size w da dz) (h1 : IsInts w.heap.size w a1 S) (h2 : IsInts w.heap.size w a2 U) (D : List Int) (hD : D = ptD c sz dz S U) :
    Calls Tryd.prog 21 #[.agg #[.bool c, .slice sa sz.length sc, .slice da dz.length dc], .slice a1 n k1, .slice a2 n k2] w (fun r w' => ∃ xa xc ya yc, r = .returned (.agg #[.bool c, .slice xa n xc, .slice ya D.length yc]) ∧ NewInts w.heap.size w' xa S ∧ NewInts w.heap.size w' ya D ∧ Below w.heap.size w w') := by
  have HI : Hid (IsInts w.heap.size w sa sz ∧ IsInts w.heap.size w da dz) := ⟨hs, hd⟩
  have HJ : Hid (IsInts w.heap.size w a1 S ∧ IsInts w.heap.size w a2 U) := ⟨h1, h2⟩
  have HE : Hid (errOf S = 0 ∧ S.length = n ∧ U.length = n ∧ prod S = q ∧ flawE c sz dz = 0 ∧ n = sz.length) := ⟨hE, hSn, hUn, hq, hf, hl⟩
  have HU : Hid (∀ k, -8192 ≤ nth U k ∧ nth U k ≤ 8192) := hU
  have HD : Hid (D = ptD c sz dz S U ∧ D.length = q) := ⟨hD, by rw [hD]; unfold ptD; rw [TA_length]; omega⟩
  have hn6 : n ≤ 6 := by have := (errOf_zero.1 hE).1; omega
  have hq4 : q ≤ 4096 := by have := (errOf_zero.1 hE).2.2; omega
  have hDq1 : D.length ≤ q := by have := HD.out.2; omega
  have hDq2 : q ≤ D.length := by have := HD.out.2; omega
  have HL : Hid (sz.length ≤ 6 ∧ dz.length ≤ 4096) := flawE_short hf
  clear hs hd h1 h2 hSn hUn hq hf hE hl hU hD
  have hb : Hid (Below w.heap.size w ((w.alloc (.cells #[.bool c, .slice sa sz.length sc, .slice da dz.length dc] 24)).alloc (.cells #[.bool false, .slice none 0 0, .slice none 0 0] 24))) := ((Below.refl _ w).alloc (Nat.le_refl _) _).alloc (by simp) _
  have pa := (Abx.new w (.bool c) (.slice sa sz.length sc) (.slice da dz.length dc)).al (.cells #[.bool false, .slice none 0 0, .slice none 0 0] 24)
  have pr := Abx.new1 w (.cells #[.bool c, .slice sa sz.length sc, .slice da dz.length dc] 24) (.bool false) (.slice none 0 0) (.slice none 0 0)
  obtain ⟨v1, hv1⟩ : ∃ v1, v1 = ((w.alloc (.cells #[.bool c, .slice sa sz.length sc, .slice da dz.length dc] 24)).alloc (.cells #[.bool false, .slice none 0 0, .slice none 0 0] 24)) := ⟨_, rfl⟩
  rw [← hv1] at hb pa pr
  have HP : Hid (Abx v1 w.heap.size (.bool c) (.slice sa sz.length sc) (.slice da dz.length dc)) := pa
  have HR : Hid (Abx v1 (w.heap.size + 1) (.bool false) (.slice none 0 0) (.slice none 0 0)) := pr
  have p0 := pa.c0
  have HV1 : Hid (v1 = _) := hv1
  clear hv1 pa pr
  go_enter Tryd.func21, Tryd.ntmps21
  go_upto_region 1 with fail
  rw [← HV1.out]
  go_cut [7] (fun s7 wc => ∃ B g gc, s7 = .pointer (some ⟨B, 0, none⟩) ∧ Out6 v1 B c g gc n S wc)
  case first =>
    have hbW : Hid (Below v1.heap.size v1 v1.drew) := (Below.refl _ v1).drew
    refine anyT_begin 6 (fun w' => w'.cell? ⟨w.heap.size, 0, none⟩ = some (.bool c)) 7 #[false, false, false, false, false, false, false] (by kernel_rfl) rfl rfl ?_
    refine anyT_put 0 13 ?rv0 #[true, false, false, false, false, false, false] rfl rfl rfl (by kernel_rfl) (by kernel_rfl) (by kernel_rfl) (fun _ _ _ h => h) (by decide) ?ry0 (fun _ => p0) ?rm0
    case ry0 => first | exact Or.inl ⟨by rfl, by intro w'; go_simp; first | done | rfl⟩
    case rm0 =>
    simp only [Act.put, List.setIfInBounds_toArray, List.set_cons_zero, List.set_cons_succ]
    refine anyT_take 1 14 ?rv1 #[true, true, false, false, false, false, false] rfl rfl rfl (by kernel_rfl) (by kernel_rfl) (by kernel_rfl) (fun _ _ _ h => h) (by kernel_rfl) (by decide) (by kernel_rfl) ?ry1 (p0) ?rm1
    case ry1 => first | exact Or.inl ⟨by rfl, by intro w' hw'; (try dsimp only at hw'); go_simp; first | done | rfl⟩
    case rm1 =>
    simp only [Act.put, List.setIfInBounds_toArray, List.set_cons_zero, List.set_cons_succ]
    refine anyT_put 2 15 ?rv2 #[true, true, true, false, false, false, false] rfl rfl rfl (by kernel_rfl) (by kernel_rfl) (by kernel_rfl) (fun _ _ _ h => h) (by decide) ?ry2 (fun _ => p0) ?rm2
    case ry2 => first | exact Or.inl ⟨by rfl, by intro w'; go_simp; first | done | rfl⟩
    case rm2 =>
    simp only [Act.put, List.setIfInBounds_toArray, List.set_cons_zero, List.set_cons_succ]
    refine anyT_br2 3 5 #[true, true, true, true, false, false, false] #[true, true, true, false, false, true, false] (by kernel_rfl) rfl rfl rfl rfl (fun K hK => ?ba3) (fun K hK => ?bb3)
    case ba3 =>
      go_simp
      go_wp2_with (go_at_call 28; refine (copied_n a1 k1 S n HE.out.2.1 (by rw [HE.out.2.1]; omega) (v1.drew) ((HJ.out.1.below (hb.out.trans (hbW.out.mono hb.out.size))).mono (Nat.le_trans hb.out.size hbW.out.size))).mono ?_; rintro e w2 ⟨g, gc, rfl, hG, hBc⟩)
      have hbWa : Hid (Below v1.heap.size v1 w2) := hbW.out.trans (hBc.mono hbW.out.size)
      have pc := HP.out.go hbWa.out
      try (have rB : Abx w2 v1.heap.size (.bool false) (.slice none 0 0) (.slice none 0 0) := RB.out.go hBc)
      try (have r0 := rB.c0)
      try (have r1 := rB.c1)
      try (have r2 := rB.c2)
      try (have f0 := rB.fr 0)
      try (have f1 := rB.fr 1)
      try (have f2 := rB.fr 2)
      refine hK.out _ _ (fun _ => pc.c0) ?_
      clear hK K
      refine anyT_put 4 17 ?rv4 #[true, true, true, true, true, false, false] rfl rfl rfl (by kernel_rfl) (by kernel_rfl) (by kernel_rfl) (fun _ _ _ h => h) (by decide) ?ry4 (fun _ => pc.c0) ?rm4
      case ry4 => first | exact Or.inl ⟨by rfl, by intro w'; go_simp; first | done | rfl⟩
      case rm4 =>
      simp only [Act.put, List.setIfInBounds_toArray, List.set_cons_zero, List.set_cons_succ]
      refine anyT_one 5 #[true, true, true, true, true, true, false] (by kernel_rfl) rfl rfl (fun K hK => ?_)
      go_simp
      have hbWab : Hid (Below v1.heap.size v1 (w2.alloc (.cells #[.bool false, .slice none 0 0, .slice none 0 0] 24))) := hbWa.out.alloc hbWa.out.size _
      have pda := HP.out.go hbWab.out
      have RB : Hid (Abx (w2.alloc (.cells #[.bool false, .slice none 0 0, .slice none 0 0] 24)) w2.heap.size (.bool false) (.slice none 0 0) (.slice none 0 0)) := Abx.new _ _ _ _
      refine hK.out _ _ (fun _ => pda.c0) ?_
      clear hK K
      refine anyT_one 6 #[true, true, true, true, true, true, true] (by kernel_rfl) rfl rfl (fun K hK => ?_)
      go_simp
      refine hK.out _ _ (fun h => absurd h (by decide)) ?_
      clear hK K
      refine anyT_done (by kernel_rfl) ?_
      go_wp2_with fail
      go_meet
      first | exact ⟨_, g, gc, rfl, out6_a hG hbWa.out⟩ | exact ⟨_, g, gc, rfl, out6_b (by have h := hG; rw [World.size_alloc] at h; exact h) rB hbWba.out⟩
    case bb3 =>
      go_simp
      have hbWb : Hid (Below v1.heap.size v1 ((v1.drew).alloc (.cells #[.bool false, .slice none 0 0, .slice none 0 0] 24))) := hbW.out.alloc hbW.out.size _
      have pd := HP.out.go hbWb.out
      have RB : Hid (Abx ((v1.drew).alloc (.cells #[.bool false, .slice none 0 0, .slice none 0 0] 24)) (v1.drew).heap.size (.bool false) (.slice none 0 0) (.slice none 0 0)) := Abx.new _ _ _ _
      refine hK.out _ _ (fun _ => pd.c0) ?_
      clear hK K
      refine anyT_one 3 #[true, true, true, true, false, true, false] (by kernel_rfl) rfl rfl (fun K hK => ?_)
      go_simp
      go_wp2_with (go_at_call 28; refine (copied_n a1 k1 S n HE.out.2.1 (by rw [HE.out.2.1]; omega) ((v1.drew).alloc (.cells #[.bool false, .slice none 0 0, .slice none 0 0] 24)) ((HJ.out.1.below (hb.out.trans (hbWb.out.mono hb.out.size))).mono (Nat.le_trans hb.out.size hbWb.out.size))).mono ?_; rintro e w2 ⟨g, gc, rfl, hG, hBc⟩)
      have hbWba : Hid (Below v1.heap.size v1 w2) := hbWb.out.trans (hBc.mono hbWb.out.size)
      have pcb := HP.out.go hbWba.out
      try (have rB : Abx w2 v1.heap.size (.bool false) (.slice none 0 0) (.slice none 0 0) := RB.out.go hBc)
      try (have r0 := rB.c0)
      try (have r1 := rB.c1)
      try (have r2 := rB.c2)
      try (have f0 := rB.fr 0)
      try (have f1 := rB.fr 1)
      try (have f2 := rB.fr 2)
      refine hK.out _ _ (fun _ => pcb.c0) ?_
      clear hK K
      refine anyT_put 4 17 ?rv8 #[true, true, true, true, true, true, false] rfl rfl rfl (by kernel_rfl) (by kernel_rfl) (by kernel_rfl) (fun _ _ _ h => h) (by decide) ?ry8 (fun _ => pcb.c0) ?rm8
      case ry8 => first | exact Or.inl ⟨by rfl, by intro w'; go_simp; first | done | rfl⟩
      case rm8 =>
      simp only [Act.put, List.setIfInBounds_toArray, List.set_cons_zero, List.set_cons_succ]
      refine anyT_one 6 #[true, true, true, true, true, true, true] (by kernel_rfl) rfl rfl (fun K hK => ?_)
      go_simp
      refine hK.out _ _ (fun h => absurd h (by decide)) ?_
      clear hK K
      refine anyT_done (by kernel_rfl) ?_
      go_wp2_with fail
      go_meet
      first | exact ⟨_, g, gc, rfl, out6_a hG hbWa.out⟩ | exact ⟨_, g, gc, rfl, out6_b (by have h := hG; rw [World.size_alloc] at h; exact h) rB hbWba.out⟩
  case rest =>
    obtain ⟨B, g, gc, rfl, hO⟩ := hcut
    obtain ⟨v2, hv2⟩ : ∃ v2, v2 = wc := ⟨_, rfl⟩
    subst hv2
    have hb2 : Hid (Below w.heap.size w v2) := hb.out.trans (hO.2.2.2.mono hb.out.size)
    have HO : Hid (Abx v2 w.heap.size (.bool c) (.slice sa sz.length sc) (.slice da dz.length dc) ∧ Abx v2 (w.heap.size + 1) (.bool false) (.slice none 0 0) (.slice none 0 0) ∧ Abx v2 B (.bool c) (.slice g n gc) (.slice none 0 0) ∧ SepInts v1.heap.size v2.heap.size B v2 g S) := ⟨HP.out.go hO.2.2.2, HR.out.go hO.2.2.2, hO.2.1, hO.2.2.1⟩
    have hBl : w.heap.size + 1 < B := by have := hO.1; have := HR.out.lt; omega
    have hB2 : B < v2.heap.size := hO.2.1.lt
    have hv12 : v1.heap.size ≤ v2.heap.size := hO.2.2.2.size
    have hbv : w.heap.size ≤ v1.heap.size := hb.out.size
    clear hO p0
    go_wp2_with fail
    refine (cells_n a1 k1 S n q HE.out.2.1 HE.out.2.2.2.1 (by rw [HE.out.2.1]; omega) HE.out.1 v2.heap.size v2 ((HJ.out.1.below hb2.out).mono hb2.out.size)).mono ?_
    rintro e v3 ⟨rfl, rfl⟩
    obtain ⟨v2, hv2⟩ : ∃ v2, v2 = v3 := ⟨_, rfl⟩
    subst hv2
    go_wp2_with fail
    go_loopw [9] (fun i wx => ∃ (k : Nat) (v : Value), k ≤ q ∧ i = .int .i64 k ∧ Abx wx w.heap.size (.bool c) (.slice sa sz.length sc) (.slice da dz.length dc) ∧ Abx wx (w.heap.size + 1) (.bool false) (.slice none 0 0) (.slice none 0 0) ∧ Abx wx B (.bool c) (.slice g n gc) v
        ∧ wx.ownsRow v2.heap.size 3 1 v (D.take k).length ((D.take k).map (Value.int .i64)) ∧ SepInts v1.heap.size v2.heap.size B wx g S ∧ v2.heap.size ≤ wx.heap.size ∧ Below w.heap.size w wx) (fun i _ => q - (intOf i).toNat)
    case atStart => exact ⟨0, .slice none 0 0, Nat.zero_le _, rfl, HO.out.1, HO.out.2.1, HO.out.2.2.1, World.ownsRow_nil _ _ _ _, HO.out.2.2.2, Nat.le_refl _, hb2.out⟩
    case round =>
      obtain ⟨wo, hwo⟩ : ∃ wo, wo = wr := ⟨_, rfl⟩
      subst hwo
      obtain ⟨k, v, hk, rfl, hP, hR, hU, hown, hS, hsx, hBx⟩ := hrel
      by_cases hlt : k < q
      · have HK : Hid ((k : Int) < prod S) := by show _ < _; rw [HE.out.2.2.2.1]; omega
        have HQ : Hid (Abx wo w.heap.size (.bool c) (.slice sa sz.length sc) (.slice da dz.length dc) ∧ Abx wo (w.heap.size + 1) (.bool false) (.slice none 0 0) (.slice none 0 0) ∧ Abx wo B (.bool c) (.slice g n gc) v ∧ SepInts v1.heap.size v2.heap.size B wo g S ∧ Below w.heap.size w wo) := ⟨hP, hR, hU, hS, hBx⟩
        clear hP hR hU hS hBx
        go_wp2_with fail
        refine (coords_n a1 k1 S n k HE.out.2.1 HE.out.1 HK.out wo ((HJ.out.1.below HQ.out.2.2.2.2).mono HQ.out.2.2.2.2.size)).mono ?_
        rintro e w2 ⟨ta, tc, rfl, hA, hB3⟩
        have HA : Hid (NewInts wo.heap.size w2 ta (cr S k) ∧ Below wo.heap.size wo w2) := ⟨hA, hB3⟩
        have HC : Hid (insB S (cr S k) = true ∧ (cr S k).length = n) := ⟨(cr_fact HE.out.1 HK.out).1, by rw [cr_length]; exact HE.out.2.1⟩
        obtain ⟨t, ht⟩ : ∃ t, t = cr S k := ⟨_, rfl⟩
        rw [← ht] at HA HC
        have HTc : Hid (t = cr S k) := ht
        clear hA hB3 ht
        go_wp2_with fail
        go_loopw [11] (fun i wx => ∃ j : Nat, j ≤ n ∧ i = .int .i64 j ∧ NewInts wo.heap.size wx ta (addJ t U j) ∧ Below wo.heap.size wo wx) (fun i _ => n - (intOf i).toNat)
        case atStart => exact ⟨0, Nat.zero_le _, rfl, by rw [addJ_zero]; exact HA.out.1, HA.out.2⟩
        case round =>
          obtain ⟨j, hj, rfl, hN, hBi⟩ := hrel
          have HBi : Hid (Below wo.heap.size wo wr ∧ Below w.heap.size w wr) := ⟨hBi, HQ.out.2.2.2.2.trans (hBi.mono HQ.out.2.2.2.2.size)⟩
          by_cases hjl : j < n
          · have hcl : j < t.length := by rw [HC.out.2]; exact hjl
            rcases hN with e0 | ⟨bt, ot, rfl, l0, hbt, hcT, hfT⟩
            · have := addJ_length t U j
              rw [e0] at this
              simp at this
              omega
            have HN : Hid (NewInts wo.heap.size wr (some ⟨bt, ot, none⟩) (addJ t U j)) := .inr ⟨bt, ot, rfl, l0, hbt, hcT, hfT⟩
            have ct := hcT j (by rw [addJ_length]; exact hcl)
            rw [addJ_nth _ _ _ hcl, if_neg (by omega)] at ct
            have fT := hfT j
            obtain ⟨bu, ou, rfl, hbu, hcU⟩ := (HJ.out.2.below HBi.out.2).at (q := j) (by rw [HE.out.2.2.1]; exact hjl)
            have cu := hcU j (by rw [HE.out.2.2.1]; exact hjl)
            have hb1 := ins_at HC.out.1 (x := j) (by rw [HE.out.2.1]; exact hjl)
            have hb2 := ((errOf_zero.1 HE.out.1).2.1.nth j).2
            have hb3 := HU.out j
            have hlt' : j < n := hjl
            obtain ⟨T0, hT0⟩ : ∃ T0, T0 = nth t j := ⟨_, rfl⟩
            obtain ⟨U0, hU0⟩ : ∃ U0, U0 = nth U j := ⟨_, rfl⟩
            rw [← hT0] at ct
            rw [← hU0] at cu
            have HTU : Hid (T0 + U0 = nth t j + nth U j) := by rw [hT0, hU0]; rfl
            have hw : IntKind.i64.wrap (T0 + U0) = T0 + U0 := IntWalk.i64_in _ (by omega)
            clear hcT hfT hcU hBi hb1 hb2 hb3 hT0 hU0
            go_wp2_with fail
            refine anyT_begin 9 (fun w' => w'.cell? ⟨bt, ot + j, none⟩ = some (.int .i64 T0) ∧ w'.cell? ⟨bu, ou + j, none⟩ = some (.int .i64 U0)) 11 #[false, false, false, false, false, false, false, false, false, false, false] (by kernel_rfl) rfl rfl ?_
            refine anyT_put 0 34 ?rv10 #[true, false, false, false, false, false, false, false, false, false, false] rfl rfl rfl (by kernel_rfl) (by kernel_rfl) (by kernel_rfl) (fun _ _ _ h => h) (by decide) ?ry10 (fun _ => ⟨ct, cu⟩) ?rm10
            case ry10 => first | exact Or.inl ⟨by rfl, by intro w'; go_simp; first | done | rfl⟩
            case rm10 =>
            simp only [Act.put, List.setIfInBounds_toArray, List.set_cons_zero, List.set_cons_succ]
            refine anyT_put 1 35 ?rv11 #[true, true, false, false, false, false, false, false, false, false, false] rfl rfl rfl (by kernel_rfl) (by kernel_rfl) (by kernel_rfl) (fun _ _ _ h => h) (by decide) ?ry11 (fun _ => ⟨ct, cu⟩) ?rm11
            case ry11 => first | exact Or.inl ⟨by rfl, by intro w'; go_simp; first | done | rfl⟩
            case rm11 =>
            simp only [Act.put, List.setIfInBounds_toArray, List.set_cons_zero, List.set_cons_succ]
            refine anyT_put 2 36 ?rv12 #[true, true, true, false, false, false, false, false, false, false, false] rfl rfl rfl (by kernel_rfl) (by kernel_rfl) (by kernel_rfl) (fun _ _ _ h => h) (by decide) ?ry12 (fun _ => ⟨ct, cu⟩) ?rm12
            case ry12 => first | exact Or.inl ⟨by rfl, by intro w'; go_simp; first | done | rfl⟩
            case rm12 =>
            simp only [Act.put, List.setIfInBounds_toArray, List.set_cons_zero, List.set_cons_succ]
            refine anyT_take 3 37 ?rv13 #[true, true, true, true, false, false, false, false, false, false, false] rfl rfl rfl (by kernel_rfl) (by kernel_rfl) (by kernel_rfl) (fun _ _ _ h => h) (by kernel_rfl) (by decide) (by kernel_rfl) ?ry13 (⟨ct, cu⟩) ?rm13
            case ry13 => first | exact Or.inl ⟨by rfl, by intro w' hw'; (try dsimp only at hw'); go_simp; first | done | rfl⟩
            case rm13 =>
            simp only [Act.put, List.setIfInBounds_toArray, List.set_cons_zero, List.set_cons_succ]
            refine anyT_put 4 38 ?rv14 #[true, true, true, true, true, false, false, false, false, false, false] rfl rfl rfl (by kernel_rfl) (by kernel_rfl) (by kernel_rfl) (fun _ _ _ h => h) (by decide) ?ry14 (fun _ => ⟨ct, cu⟩) ?rm14
            case ry14 => first | exact Or.inl ⟨by rfl, by intro w'; go_simp; first | done | rfl⟩
            case rm14 =>
            simp only [Act.put, List.setIfInBounds_toArray, List.set_cons_zero, List.set_cons_succ]
            refine anyT_put 5 39 ?rv15 #[true, true, true, true, true, true, false, false, false, false, false] rfl rfl rfl (by kernel_rfl) (by kernel_rfl) (by kernel_rfl) (fun _ _ _ h => h) (by decide) ?ry15 (fun _ => ⟨ct, cu⟩) ?rm15
            case ry15 => first | exact Or.inl ⟨by rfl, by intro w'; go_simp; first | done | rfl⟩
            case rm15 =>
            simp only [Act.put, List.setIfInBounds_toArray, List.set_cons_zero, List.set_cons_succ]
            refine anyT_put 6 40 ?rv16 #[true, true, true, true, true, true, true, false, false, false, false] rfl rfl rfl (by kernel_rfl) (by kernel_rfl) (by kernel_rfl) (fun _ _ _ h => h) (by decide) ?ry16 (fun _ => ⟨ct, cu⟩) ?rm16
            case ry16 => first | exact Or.inl ⟨by rfl, by intro w'; go_simp; first | done | rfl⟩
            case rm16 =>
            simp only [Act.put, List.setIfInBounds_toArray, List.set_cons_zero, List.set_cons_succ]
            refine anyT_take 7 41 ?rv17 #[true, true, true, true, true, true, true, true, false, false, false] rfl rfl rfl (by kernel_rfl) (by kernel_rfl) (by kernel_rfl) (fun _ _ _ h => h) (by kernel_rfl) (by decide) (by kernel_rfl) ?ry17 (⟨ct, cu⟩) ?rm17
            case ry17 => first | exact Or.inl ⟨by rfl, by intro w' hw'; (try dsimp only at hw'); go_simp; first | done | rfl⟩
            case rm17 =>
            simp only [Act.put, List.setIfInBounds_toArray, List.set_cons_zero, List.set_cons_succ]
            refine anyT_put 8 42 ?rv18 #[true, true, true, true, true, true, true, true, true, false, false] rfl rfl rfl (by kernel_rfl) (by kernel_rfl) (by kernel_rfl) (fun _ _ _ h => h) (by decide) ?ry18 (fun _ => ⟨ct, cu⟩) ?rm18
            case ry18 => first | exact Or.inl ⟨by rfl, by intro w'; go_simp; first | done | rfl⟩
            case rm18 =>
            simp only [Act.put, List.setIfInBounds_toArray, List.set_cons_zero, List.set_cons_succ]
            refine anyT_one 9 #[true, true, true, true, true, true, true, true, true, true, false] (by kernel_rfl) rfl rfl (fun K hK => ?_)
            go_simp
            refine hK.out _ _ (fun h => absurd h (by decide)) ?_
            clear hK K
            refine anyT_one 10 #[true, true, true, true, true, true, true, true, true, true, true] (by kernel_rfl) rfl rfl (fun K hK => ?_)
            go_simp
            refine hK.out _ _ (fun h => absurd h (by decide)) ?_
            clear hK K
            refine anyT_done (by kernel_rfl) ?_
            go_wp2_with fail
            refine ⟨⟨j + 1, by omega, by go_num, ?_, (HBi.out.1.drew).setCell (p := ⟨bt, ot + j, none⟩) l0 _⟩, by simp [intOf]; omega⟩
            rw [← addJ_set t U hcl, ← HTU.out]
            exact NewInts.put HN.out (by rw [addJ_length]; exact hcl) _
          · obtain rfl : j = n := by omega
            obtain ⟨ts, hts⟩ : ∃ ts, ts = addL t U := ⟨_, rfl⟩
            have HT : Hid (ts = addL (cr S k) U ∧ ts.length = j ∧ NewInts wo.heap.size wr ta ts) := ⟨by rw [hts, HTc.out], by rw [hts, addL_length]; exact HC.out.2, by rw [hts, ← addJ_all, HC.out.2]; exact hN⟩
            have A4 := HQ.out.1.go HBi.out.1
            have d0 := A4.c0
            have d1 := A4.c1
            have d2 := A4.c2
            clear hN hBi hts
            go_wp2_with fail
            refine (fillr_any c sa sc sz da dc dz wr).mono ?_
            rintro e w3 ⟨rfl, hB4⟩
            have A5 := A4.go hB4
            have HB5 : Hid (Below wo.heap.size wo w3) := HBi.out.1.trans (hB4.mono HBi.out.1.size)
            have HT5 : Hid (NewInts wo.heap.size w3 ta ts) := HT.out.2.2.go hB4
            clear d0 d1 d2 A4 hB4
            have d1 := A5.c1
            go_wp2_with fail
            refine (inside_n sa sc sz ta tc j ts HT.out.2.1 (by have := HL.out.1; omega) (by rw [HT.out.2.1]; exact HE.out.2.2.2.2.2) w3.heap.size w3 ((HI.out.1.below (HQ.out.2.2.2.2.trans (HB5.out.mono HQ.out.2.2.2.2.size))).mono (Nat.le_trans HQ.out.2.2.2.2.size HB5.out.size)) HT5.out.ints).mono ?_
            rintro e z ⟨rfl, hB6⟩
            have A6 := A5.go hB6
            have HZ0 : Hid (Below wo.heap.size wo z) := HB5.out.trans (hB6.mono HB5.out.size)
            have HT6 : Hid (NewInts wo.heap.size z ta ts) := HT5.out.go hB6
            clear d1 A5 hB6
            have HDk : Hid (nth D k = ptC c sz dz U (cr S k)) := by show _ = _; rw [HD.out.1]; unfold ptD; rw [TA_nth (by have := HK.out; omega)]
            cases hin : insB sz ts
            · have HV : Hid (fillE c = nth D k) := by show _ = _; rw [HDk.out]; unfold ptC; rw [← HT.out.1, hin, if_neg (by decide)]
              have HZ := HZ0
              have A7 := HQ.out.1.go HZ.out
              have U7 := HQ.out.2.2.1.go HZ.out
              have o7 := U7.c2
              have hown7 := own_go hown HZ.out
              have hzz := HZ.out.size
              have hkD : k ≤ D.length := by omega
              have U8 : Hid (Abx (z.alloc (.cells #[.int .i64 (fillE c)] 3)) B (.bool c) (.slice g j gc) v) := U7.al _
              go_wp2_with (at_builtin; refine app_list rfl _ _ rfl _ v2.heap.size z.heap.size v (D.take k) (fillE c) rfl rfl (hown7.alloc _) (heap_alloc_new z _) (by rw [take_lenR _ (by omega)]; omega) (by simp; omega) ?_; intro g1 gc1 w9 hown9 hB9; have U9 : Hid (Abx w9 B (.bool c) (.slice g j gc) v) := U8.out.bel hB9 (by omega); have u2 := U9.out.c2; have uf := U9.out.fr 2)
              rw [HV.out, ← take_snoc D k (by omega), take_lenR D (show k ≤ D.length by omega)] at hown9
              have hz9 := hB9.size
              simp at hz9
              refine ⟨⟨k + 1, .slice (some ⟨g1, 0, none⟩) (k + 1) gc1, by omega, by go_num, (((A7.al _).bel hB9 (by omega))).ot (by show w.heap.size ≠ B; omega) _, ?_, U9.out.s2 _, ?_, ?_, by simp [World.setCell]; omega, ?_⟩, by simp [intOf]; omega⟩
              · exact (((HQ.out.2.1.go HZ.out).al _).bel hB9 (by omega)).ot (by show w.heap.size + 1 ≠ B; omega) _
              · rw [take_lenR D (show k + 1 ≤ D.length by omega)]
                exact ownsRow_setCell_below hown9 (by show B < v2.heap.size; omega) _
              · exact ((((HQ.out.2.2.2.1.bel (HZ.out.mono hsx)).al (by omega) _).bel hB9)).set 2 _
              · exact ((((HQ.out.2.2.2.2.trans (HZ.out.mono HQ.out.2.2.2.2.size)).alloc (by have := HQ.out.2.2.2.2.size; omega) _).trans (hB9.mono (by omega)))).setCell (p := ⟨B, 2, none⟩) (by show w.heap.size ≤ B; omega) _
            · have HFz := flawE_zero HE.out.2.2.2.2.1
              have HPl : Hid (0 ≤ place sz ts ∧ place sz ts < dz.length) := by have := place_bd hin; exact ⟨this.1, by rw [HFz.2.1]; exact this.2⟩
              obtain ⟨P, hP⟩ : ∃ P : Nat, place sz ts = P := ⟨(place sz ts).toNat, by have := HPl.out.1; omega⟩
              have hPl : P < dz.length := by have := HPl.out.2; omega
              have HPP : Hid (place sz ts = P ∧ insB sz ts = true ∧ errOf sz = 0) := ⟨hP, hin, HFz.1⟩
              have HV : Hid (nth dz P = nth D k) := by show _ = _; rw [HDk.out]; unfold ptC cel; rw [← HT.out.1, if_pos hin, hP, Int.toNat_natCast]
              clear hP HFz
              have hBw : Hid (Below w.heap.size w z) := HQ.out.2.2.2.2.trans (HZ0.out.mono HQ.out.2.2.2.2.size)
              obtain ⟨bd, od, rfl, hbd, hcD⟩ := (HI.out.2.below hBw.out).at hPl
              have cd := hcD P hPl
              have d1 := A6.c1
              have d2 := A6.c2
              have hl4 := HL.out.2
              clear hcD
              go_wp2_with fail
              refine anyT_begin 8 (fun w' => w'.cell? ⟨w.heap.size, 2, none⟩ = some (.slice (some ⟨bd, od, none⟩) dz.length dc) ∧ w'.cell? ⟨w.heap.size, 1, none⟩ = some (.slice sa sz.length sc) ∧ w'.cell? ⟨bd, od + P, none⟩ = some (.int .i64 (nth dz P))) 9 #[false, false, false, false, false, false, false, false, false] (by kernel_rfl) rfl rfl ?_
              refine anyT_put 0 50 ?rv21 #[true, false, false, false, false, false, false, false, false] rfl rfl rfl (by kernel_rfl) (by kernel_rfl) (by kernel_rfl) (fun _ _ _ h => h) (by decide) ?ry21 (fun _ => ⟨d2, d1, cd⟩) ?rm21
              case ry21 => first | exact Or.inl ⟨by rfl, by intro w'; go_simp; first | done | rfl⟩
              case rm21 =>
              simp only [Act.put, List.setIfInBounds_toArray, List.set_cons_zero, List.set_cons_succ]
              refine anyT_take 1 51 ?rv22 #[true, true, false, false, false, false, false, false, false] rfl rfl rfl (by kernel_rfl) (by kernel_rfl) (by kernel_rfl) (fun _ _ _ h => h) (by kernel_rfl) (by decide) (by kernel_rfl) ?ry22 (⟨d2, d1, cd⟩) ?rm22
              case ry22 => first | exact Or.inl ⟨by rfl, by intro w' hw'; (try dsimp only at hw'); go_simp; first | done | rfl⟩
              case rm22 =>
              simp only [Act.put, List.setIfInBounds_toArray, List.set_cons_zero, List.set_cons_succ]
              refine anyT_put 2 52 ?rv23 #[true, true, true, false, false, false, false, false, false] rfl rfl rfl (by kernel_rfl) (by kernel_rfl) (by kernel_rfl) (fun _ _ _ h => h) (by decide) ?ry23 (fun _ => ⟨d2, d1, cd⟩) ?rm23
              case ry23 => first | exact Or.inl ⟨by rfl, by intro w'; go_simp; first | done | rfl⟩
              case rm23 =>
              simp only [Act.put, List.setIfInBounds_toArray, List.set_cons_zero, List.set_cons_succ]
              refine anyT_take 3 53 ?rv24 #[true, true, true, true, false, false, false, false, false] rfl rfl rfl (by kernel_rfl) (by kernel_rfl) (by kernel_rfl) (fun _ _ _ h => h) (by kernel_rfl) (by decide) (by kernel_rfl) ?ry24 (⟨d2, d1, cd⟩) ?rm24
              case ry24 => first | exact Or.inl ⟨by rfl, by intro w' hw'; (try dsimp only at hw'); go_simp; first | done | rfl⟩
              case rm24 =>
              simp only [Act.put, List.setIfInBounds_toArray, List.set_cons_zero, List.set_cons_succ]
              refine anyT_put 4 54 ?rv25 #[true, true, true, true, true, false, false, false, false] rfl rfl rfl (by kernel_rfl) (by kernel_rfl) (by kernel_rfl) (fun _ _ _ h => h) (by decide) ?ry25 (fun _ => ⟨d2, d1, cd⟩) ?rm25
              case ry25 => first | exact Or.inl ⟨by rfl, by intro w'; go_simp; first | done | rfl⟩
              case rm25 =>
              simp only [Act.put, List.setIfInBounds_toArray, List.set_cons_zero, List.set_cons_succ]
              refine anyT_one 5 #[true, true, true, true, true, true, false, false, false] (by kernel_rfl) rfl rfl (fun K hK => ?_)
              go_simp
              go_wp2_with (go_at_call 31; refine (where_n sa sc sz ta tc j ts HT.out.2.1 P HPP.out.1 (by have := HL.out.1; omega) HPP.out.2.2 HPP.out.2.1 z.heap.size z.drew ((HI.out.1.below hBw.out).mono hBw.out.size) HT6.out.ints).mono ?_; rintro e w4 ⟨rfl, rfl⟩)
              refine hK.out _ _ (fun _ => ⟨d2, d1, cd⟩) ?_
              clear hK K
              refine anyT_put 6 56 ?rv27 #[true, true, true, true, true, true, true, false, false] rfl rfl rfl (by kernel_rfl) (by kernel_rfl) (by kernel_rfl) (fun _ _ _ h => h) (by decide) ?ry27 (fun _ => ⟨d2, d1, cd⟩) ?rm27
              case ry27 => first | exact Or.inl ⟨by rfl, by intro w'; go_simp; first | done | rfl⟩
              case rm27 =>
              simp only [Act.put, List.setIfInBounds_toArray, List.set_cons_zero, List.set_cons_succ]
              refine anyT_take 7 57 ?rv28 #[true, true, true, true, true, true, true, true, false] rfl rfl rfl (by kernel_rfl) (by kernel_rfl) (by kernel_rfl) (fun _ _ _ h => h) (by kernel_rfl) (by decide) (by kernel_rfl) ?ry28 (⟨d2, d1, cd⟩) ?rm28
              case ry28 => first | exact Or.inl ⟨by rfl, by intro w' hw'; (try dsimp only at hw'); go_simp; first | done | rfl⟩
              case rm28 =>
              simp only [Act.put, List.setIfInBounds_toArray, List.set_cons_zero, List.set_cons_succ]
              refine anyT_one 8 #[true, true, true, true, true, true, true, true, true] (by kernel_rfl) rfl rfl (fun K hK => ?_)
              go_simp
              refine hK.out _ _ (fun h => absurd h (by decide)) ?_
              clear hK K
              refine anyT_done (by kernel_rfl) ?_
              obtain ⟨z2, hz2⟩ : ∃ z2, z2 = z.drew := ⟨_, rfl⟩
              rw [← hz2]
              have HZ : Hid (Below wo.heap.size wo z2) := by rw [hz2]; exact HZ0.out.drew
              clear hz2
              have A7 := HQ.out.1.go HZ.out
              have U7 := HQ.out.2.2.1.go HZ.out
              have o7 := U7.c2
              have hown7 := own_go hown HZ.out
              have hzz := HZ.out.size
              have hkD : k ≤ D.length := by omega
              have U8 : Hid (Abx (z2.alloc (.cells #[.int .i64 (nth dz P)] 3)) B (.bool c) (.slice g j gc) v) := U7.al _
              go_wp2_with (at_builtin; refine app_list rfl _ _ rfl _ v2.heap.size z2.heap.size v (D.take k) (nth dz P) rfl rfl (hown7.alloc _) (heap_alloc_new z2 _) (by rw [take_lenR _ (by omega)]; omega) (by simp; omega) ?_; intro g1 gc1 w9 hown9 hB9; have U9 : Hid (Abx w9 B (.bool c) (.slice g j gc) v) := U8.out.bel hB9 (by omega); have u2 := U9.out.c2; have uf := U9.out.fr 2)
              rw [HV.out, ← take_snoc D k (by omega), take_lenR D (show k ≤ D.length by omega)] at hown9
              have hz9 := hB9.size
              simp at hz9
              refine ⟨⟨k + 1, .slice (some ⟨g1, 0, none⟩) (k + 1) gc1, by omega, by go_num, (((A7.al _).bel hB9 (by omega))).ot (by show w.heap.size ≠ B; omega) _, ?_, U9.out.s2 _, ?_, ?_, by simp [World.setCell]; omega, ?_⟩, by simp [intOf]; omega⟩
              · exact (((HQ.out.2.1.go HZ.out).al _).bel hB9 (by omega)).ot (by show w.heap.size + 1 ≠ B; omega) _
              · rw [take_lenR D (show k + 1 ≤ D.length by omega)]
                exact ownsRow_setCell_below hown9 (by show B < v2.heap.size; omega) _
              · exact ((((HQ.out.2.2.2.1.bel (HZ.out.mono hsx)).al (by omega) _).bel hB9)).set 2 _
              · exact ((((HQ.out.2.2.2.2.trans (HZ.out.mono HQ.out.2.2.2.2.size)).alloc (by have := HQ.out.2.2.2.2.size; omega) _).trans (hB9.mono (by omega)))).setCell (p := ⟨B, 2, none⟩) (by show w.heap.size ≤ B; omega) _
      · obtain rfl : k = q := by omega
        rw [List.take_of_length_le (by omega)] at hown
        obtain ⟨g1, gc1, rfl, hN1⟩ := owns_new hown
        have o0 := hU.c0
        have o1 := hU.c1
        have o2 := hU.c2
        have r_0 := hR.c0
        have r_1 := hR.c1
        have r_2 := hR.c2
        have f_0 := hR.fr 0
        have f_1 := hR.fr 1
        have f_2 := hR.fr 2
        clear hown hlt
        go_wp2_with fail
        have FF := hR.set3 (.bool c) (.slice g n gc) (.slice g1 D.length gc1)
        have q0 := FF.c0
        have q1 := FF.c1
        have q2 := FF.c2
        refine bodyPost_ret (v := .agg #[.bool c, .slice g n gc, .slice g1 D.length gc1]) (by simp [results, Tryd.results21, go_sem, q0, q1, q2]) rfl ?_
        have hX := ((hS.new hsx).set3 (b := w.heap.size + 1) (by have := HR.out.lt; omega) (.bool c) (.slice g n gc) (.slice g1 D.length gc1)).low (lo' := w.heap.size) (by omega)
        have hY := (hN1.set3 (b := w.heap.size + 1) (by omega) (.bool c) (.slice g n gc) (.slice g1 D.length gc1)).low (lo' := w.heap.size) (by omega)
        have hZ := bel_set3 hBx (b := w.heap.size + 1) (by omega) (.bool c) (.slice g n gc) (.slice g1 D.length gc1)
        exact ⟨g, gc, g1, gc1, rfl, hX, hY, hZ⟩
end Go.Proofs.YtldjgacnjogbnaaDoor
