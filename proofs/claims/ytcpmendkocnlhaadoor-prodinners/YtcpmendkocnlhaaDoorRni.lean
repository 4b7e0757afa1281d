/-
  What the reference tells of Innered.
-/
import Derived.Deep.QuietTactic
import Derived.BigQuiet
import Derived.Deep.DeepCutAuto
import Derived.Test.YtcpmendkocnlhaaDoorRlc
import Derived.Test.YtcpmendkocnlhaaDoorRfd
import Derived.Test.YtcpmendkocnlhaaDoorFlaws
import Derived.Test.YtcpmendkocnlhaaDoorPrdq
import Derived.Test.YtcpmendkocnlhaaDoorPrdp
import Derived.Test.YtcpmendkocnlhaaDoorHold
import Derived.Test.YtcpmendkocnlhaaDoorPair
import Derived.Test.YtcpmendkocnlhaaDoorPin2
import Derived.Test.YtcpmendkocnlhaaDoorRnl
namespace Go.Proofs.YtcpmendkocnlhaaDoor
open Go.RowKit
set_option linter.unusedVariables false

theorem l64n {l : List Int} (h : L64 l) (j : Nat) : In64 (nth l j) := by
  by_cases hj : j < l.length
  · rw [nth_get l j hj]; exact h _ (List.getElem_mem hj)
  · have : nth l j = 0 := by unfold nth; simp [List.getD, List.getElem?_eq_none (by omega : l.length ≤ j)]
    rw [this]; unfold In64; decide
/-! ### A line that is told over another one, cell by cell -/
def mx (A B : List Int) (k : Nat) : List Int := (List.range A.length).map fun j => if j < k then nth A j else nth B j
theorem mx_length (A B : List Int) (k : Nat) : (mx A B k).length = A.length := by simp [mx]
theorem mx_nth {A B : List Int} {k j : Nat} (h : j < A.length) : nth (mx A B k) j = if j < k then nth A j else nth B j := by simp [mx, nth, h]
theorem mx_zero {A B : List Int} (h : A.length = B.length) : mx A B 0 = B := nth_ext (by rw [mx_length]; exact h) fun j hj => by rw [mx_length] at hj; rw [mx_nth hj, if_neg (by omega)]
theorem mx_all (A B : List Int) : mx A B A.length = A := nth_ext (mx_length _ _ _) fun j hj => by rw [mx_length] at hj; rw [mx_nth hj, if_pos hj]
theorem mx_set {A B : List Int} {k : Nat} (h : k < A.length) : (mx A B k).set k (nth A k) = mx A B (k + 1) := by
  have hl : ((mx A B k).set k (nth A k)).length = A.length := by rw [List.length_set, mx_length]
  refine nth_ext (by rw [hl, mx_length]) fun j hj => ?_
  rw [hl] at hj
  rw [nth_set _ _ _ _ (by rw [mx_length]; exact h), mx_nth hj, mx_nth hj]
  by_cases e : j = k
  · rw [if_pos e, if_pos (by omega), e]
  · rw [if_neg e]
    by_cases e2 : j < k
    · rw [if_pos e2, if_pos (by omega)]
    · rw [if_neg e2, if_neg (by omega)]
set_option maxRecDepth 100000 in
set_option maxHeartbeats 8000000 in
theorem innered_f (f g : Int) (c c' : Bool) (sa : Option Addr) (sc : Nat) (sz : List Int) (da : Option Addr) (dc : Nat) (dz : List Int) (sa' : Option Addr) (sc' : Nat) (sz' : List Int) (da' : Option Addr) (dc' : Nat) (dz' : List Int) (h1 : sz.length ≤ 9223372036854775807) (h2 : dz.length ≤ 9223372036854775807) (h1' : sz'.length ≤ 9223372036854775807) (h2' : dz'.length ≤ 9223372036854775807) (w : World) (hs : IsInts w.heap.size w sa sz) (hk : sz.length ≤ sc) (hd : IsInts w.heap.size w da dz) (hs' : IsInts w.heap.size w sa' sz') (hk' : sz'.length ≤ sc') (hd' : IsInts w.heap.size w da' dz') (T : ∀ j, In64 (nth dz j)) (T' : ∀ j, In64 (nth dz' j)) (hf : (f < 1 ∨ 16 < f) ∨ g < 1 ∨ 16 < g) :
    Calls Tryd.prog 8 #[.int .i64 f, .int .i64 g, .agg #[.bool c, .slice sa sz.length sc, .slice da dz.length dc], .agg #[.bool c', .slice sa' sz'.length sc', .slice da' dz'.length dc']] w (UR (inE f g c sz dz c' sz' dz') false (niS13 f g c sz dz c' sz' dz') (niD13 f g c sz dz c' sz' dz') w) := by
  unfold niS13 niD13
  have HI : Hid ((IsInts w.heap.size w sa sz ∧ IsInts w.heap.size w da dz) ∧ (IsInts w.heap.size w sa' sz' ∧ IsInts w.heap.size w da' dz')) := ⟨⟨hs, hd⟩, hs', hd'⟩
  have HT : Hid ((∀ j, In64 (nth dz j)) ∧ ∀ j, In64 (nth dz' j)) := ⟨T, T'⟩
  have pa := ((Abx.new w (.bool c) (.slice sa sz.length sc) (.slice da dz.length dc)).al (.cells #[.bool c', .slice sa' sz'.length sc', .slice da' dz'.length dc'] 25)).al (.cells #[.bool false, .slice none 0 0, .slice none 0 0] 25)
  have qa := (Abx.new1 w (.cells #[.bool c, .slice sa sz.length sc, .slice da dz.length dc] 25) (.bool c') (.slice sa' sz'.length sc') (.slice da' dz'.length dc')).al (.cells #[.bool false, .slice none 0 0, .slice none 0 0] 25)
  have ra := Abx.new1 (w.alloc (.cells #[.bool c, .slice sa sz.length sc, .slice da dz.length dc] 25)) (.cells #[.bool c', .slice sa' sz'.length sc', .slice da' dz'.length dc'] 25) (.bool false) (.slice none 0 0) (.slice none 0 0)
  rw [World.size_alloc] at ra
  have HBL : Hid (Below w.heap.size w (((w.alloc (.cells #[.bool c, .slice sa sz.length sc, .slice da dz.length dc] 25)).alloc (.cells #[.bool c', .slice sa' sz'.length sc', .slice da' dz'.length dc'] 25)).alloc (.cells #[.bool false, .slice none 0 0, .slice none 0 0] 25))) := (((Below.refl _ w).alloc (Nat.le_refl _) _).alloc (by simp) _).alloc (by simp; omega) _
  clear hs hd hs' hd' T T' pa qa
  have HE : Hid (inE f g c sz dz c' sz' dz' = 1) := by show _ = _; unfold inE; rw [if_pos hf]
  by_cases hf1 : f < 1
  · have hx : True := trivial
    clear hf
    go_enter Tryd.func8, Tryd.ntmps8
    go_wp2_with fail
    exact bodyPost_ret (v := .tuple #[.agg #[.bool false, .slice none 0 0, .slice none 0 0], .int .i64 1]) (by simp [results, Tryd.results8, go_sem]) rfl (ur12_no HE.out (by decide) HBL.out)
  · by_cases hf2 : 16 < f
    · have hx : True := trivial
      clear hf
      go_enter Tryd.func8, Tryd.ntmps8
      go_wp2_with fail
      exact bodyPost_ret (v := .tuple #[.agg #[.bool false, .slice none 0 0, .slice none 0 0], .int .i64 1]) (by simp [results, Tryd.results8, go_sem]) rfl (ur12_no HE.out (by decide) HBL.out)
    · by_cases hf3 : g < 1
      · have hx : True := trivial
        clear hf
        go_enter Tryd.func8, Tryd.ntmps8
        go_wp2_with fail
        exact bodyPost_ret (v := .tuple #[.agg #[.bool false, .slice none 0 0, .slice none 0 0], .int .i64 1]) (by simp [results, Tryd.results8, go_sem]) rfl (ur12_no HE.out (by decide) HBL.out)
      · have hf4 : 16 < g := by omega
        clear hf
        go_enter Tryd.func8, Tryd.ntmps8
        go_wp2_with fail
        exact bodyPost_ret (v := .tuple #[.agg #[.bool false, .slice none 0 0, .slice none 0 0], .int .i64 1]) (by simp [results, Tryd.results8, go_sem]) rfl (ur12_no HE.out (by decide) HBL.out)
set_option maxRecDepth 100000 in
set_option maxHeartbeats 8000000 in
theorem innered_w (f g : Int) (c c' : Bool) (sa : Option Addr) (sc : Nat) (sz : List Int) (da : Option Addr) (dc : Nat) (dz : List Int) (sa' : Option Addr) (sc' : Nat) (sz' : List Int) (da' : Option Addr) (dc' : Nat) (dz' : List Int) (h1 : sz.length ≤ 9223372036854775807) (h2 : dz.length ≤ 9223372036854775807) (h1' : sz'.length ≤ 9223372036854775807) (h2' : dz'.length ≤ 9223372036854775807) (w : World) (hs : IsInts w.heap.size w sa sz) (hk : sz.length ≤ sc) (hd : IsInts w.heap.size w da dz) (hs' : IsInts w.heap.size w sa' sz') (hk' : sz'.length ≤ sc') (hd' : IsInts w.heap.size w da' dz') (T : ∀ j, In64 (nth dz j)) (T' : ∀ j, In64 (nth dz' j)) (hf : ¬ ((f < 1 ∨ 16 < f) ∨ g < 1 ∨ 16 < g)) (hw0 : flawsE c sz dz c' sz' dz' ≠ 0) :
    Calls Tryd.prog 8 #[.int .i64 f, .int .i64 g, .agg #[.bool c, .slice sa sz.length sc, .slice da dz.length dc], .agg #[.bool c', .slice sa' sz'.length sc', .slice da' dz'.length dc']] w (UR (inE f g c sz dz c' sz' dz') false (niS13 f g c sz dz c' sz' dz') (niD13 f g c sz dz c' sz' dz') w) := by
  unfold niS13 niD13
  have flo : ¬ f < 1 := by omega
  have fhi : ¬ 16 < f := by omega
  have glo : ¬ g < 1 := by omega
  have ghi : ¬ 16 < g := by omega
  have HE : Hid (inE f g c sz dz c' sz' dz' = flawsE c sz dz c' sz' dz') := by show _ = _; unfold inE; rw [if_neg hf, if_pos hw0]
  clear hf
  have HI : Hid ((IsInts w.heap.size w sa sz ∧ IsInts w.heap.size w da dz) ∧ (IsInts w.heap.size w sa' sz' ∧ IsInts w.heap.size w da' dz')) := ⟨⟨hs, hd⟩, hs', hd'⟩
  have HT : Hid ((∀ j, In64 (nth dz j)) ∧ ∀ j, In64 (nth dz' j)) := ⟨T, T'⟩
  have pa := ((Abx.new w (.bool c) (.slice sa sz.length sc) (.slice da dz.length dc)).al (.cells #[.bool c', .slice sa' sz'.length sc', .slice da' dz'.length dc'] 25)).al (.cells #[.bool false, .slice none 0 0, .slice none 0 0] 25)
  have qa := (Abx.new1 w (.cells #[.bool c, .slice sa sz.length sc, .slice da dz.length dc] 25) (.bool c') (.slice sa' sz'.length sc') (.slice da' dz'.length dc')).al (.cells #[.bool false, .slice none 0 0, .slice none 0 0] 25)
  have ra := Abx.new1 (w.alloc (.cells #[.bool c, .slice sa sz.length sc, .slice da dz.length dc] 25)) (.cells #[.bool c', .slice sa' sz'.length sc', .slice da' dz'.length dc'] 25) (.bool false) (.slice none 0 0) (.slice none 0 0)
  rw [World.size_alloc] at ra
  have p0 := pa.c0
  have p1 := pa.c1
  have p2 := pa.c2
  have q0 := qa.c0
  have q1 := qa.c1
  have q2 := qa.c2
  obtain ⟨V0, hV0⟩ : ∃ V0, V0 = ((w.alloc (.cells #[.bool c, .slice sa sz.length sc, .slice da dz.length dc] 25)).alloc (.cells #[.bool c', .slice sa' sz'.length sc', .slice da' dz'.length dc'] 25)).alloc (.cells #[.bool false, .slice none 0 0, .slice none 0 0] 25) := ⟨_, rfl⟩
  have HB0 : Hid (Below w.heap.size w V0) := by rw [hV0]; exact (((Below.refl _ w).alloc (Nat.le_refl _) _).alloc (by simp) _).alloc (by simp; omega) _
  have Pa0 : Hid (Abx V0 w.heap.size (.bool c) (.slice sa sz.length sc) (.slice da dz.length dc)) := by rw [hV0]; exact pa
  have Qb0 : Hid (Abx V0 (w.heap.size + 1) (.bool c') (.slice sa' sz'.length sc') (.slice da' dz'.length dc')) := by rw [hV0]; exact qa
  have Rr0 : Hid (Abx V0 (w.heap.size + 1 + 1) (.bool false) (.slice none 0 0) (.slice none 0 0)) := by rw [hV0]; exact ra
  have HW : Hid (V0 = _) := hV0
  have hC := flaws_any c c' sa sc sz da dc dz sa' sc' sz' da' dc' dz' h1 h2 h1' h2' V0 ((HI.out.1.1.below HB0.out).mono HB0.out.size) ((HI.out.1.2.below HB0.out).mono HB0.out.size) ((HI.out.2.1.below HB0.out).mono HB0.out.size) ((HI.out.2.2.below HB0.out).mono HB0.out.size)
  clear hs hd hs' hd' T T' hV0 pa qa ra
  go_enter Tryd.func8, Tryd.ntmps8
  go_wp2_with fail
  rw [← HW.out]
  refine hC.mono ?_
  rintro e w1 ⟨rfl, hb⟩
  have HB1 : Hid (Below w.heap.size w w1) := HB0.out.trans (hb.mono HB0.out.size)
  have Pa1 : Hid (Abx w1 w.heap.size (.bool c) (.slice sa sz.length sc) (.slice da dz.length dc)) := Pa0.out.go hb
  have Qb1 : Hid (Abx w1 (w.heap.size + 1) (.bool c') (.slice sa' sz'.length sc') (.slice da' dz'.length dc')) := Qb0.out.go hb
  have Rr1 : Hid (Abx w1 (w.heap.size + 1 + 1) (.bool false) (.slice none 0 0) (.slice none 0 0)) := Rr0.out.go hb
  clear hb hC p0 p1 p2 q0 q1 q2 HW
  obtain ⟨E, hE⟩ : ∃ E, E = flawsE c sz dz c' sz' dz' := ⟨_, rfl⟩
  rw [← hE] at HE hw0 ⊢
  have t0 : (E != 0) = true := by simp [hw0]
  have HN0 : Hid (E ≠ 0) := hw0
  clear hE hw0
  have r0 := Rr1.out.c0
  have r1 := Rr1.out.c1
  have r2 := Rr1.out.c2
  have f0 := Rr1.out.fr 0
  have f1 := Rr1.out.fr 1
  have f2 := Rr1.out.fr 2
  go_wp2_with fail
  have FF := Rr1.out.set3 (.bool false) (.slice none 0 0) (.slice none 0 0)
  have z0 := FF.c0
  have z1 := FF.c1
  have z2 := FF.c2
  exact bodyPost_ret (v := .tuple #[.agg #[.bool false, .slice none 0 0, .slice none 0 0], .int .i64 E]) (by simp [results, Tryd.results8, go_sem, z0, z1, z2]) rfl (ur12_no HE.out HN0.out (bel_set3 HB1.out (by omega) _ _ _))
set_option maxRecDepth 100000 in
set_option maxHeartbeats 8000000 in
theorem innered_r (f g : Int) (c c' : Bool) (sa : Option Addr) (sc : Nat) (sz : List Int) (da : Option Addr) (dc : Nat) (dz : List Int) (sa' : Option Addr) (sc' : Nat) (sz' : List Int) (da' : Option Addr) (dc' : Nat) (dz' : List Int) (h1 : sz.length ≤ 9223372036854775807) (h2 : dz.length ≤ 9223372036854775807) (h1' : sz'.length ≤ 9223372036854775807) (h2' : dz'.length ≤ 9223372036854775807) (w : World) (hs : IsInts w.heap.size w sa sz) (hk : sz.length ≤ sc) (hd : IsInts w.heap.size w da dz) (hs' : IsInts w.heap.size w sa' sz') (hk' : sz'.length ≤ sc') (hd' : IsInts w.heap.size w da' dz') (T : ∀ j, In64 (nth dz j)) (T' : ∀ j, In64 (nth dz' j)) (hf : ¬ ((f < 1 ∨ 16 < f) ∨ g < 1 ∨ 16 < g)) (hw0 : flawsE c sz dz c' sz' dz' = 0) (hr : sz.length = 0 ∨ sz'.length = 0) :
    Calls Tryd.prog 8 #[.int .i64 f, .int .i64 g, .agg #[.bool c, .slice sa sz.length sc, .slice da dz.length dc], .agg #[.bool c', .slice sa' sz'.length sc', .slice da' dz'.length dc']] w (UR (inE f g c sz dz c' sz' dz') false (niS13 f g c sz dz c' sz' dz') (niD13 f g c sz dz c' sz' dz') w) := by
  unfold niS13 niD13
  have flo : ¬ f < 1 := by omega
  have fhi : ¬ 16 < f := by omega
  have glo : ¬ g < 1 := by omega
  have ghi : ¬ 16 < g := by omega
  have HE : Hid (inE f g c sz dz c' sz' dz' = 3) := by show _ = _; unfold inE; rw [if_neg hf, if_neg (not_not_intro hw0), if_pos hr]
  have HW0 : Hid (flawsE c sz dz c' sz' dz' = 0) := hw0
  have HRK : Hid (sz.length = 0 ∨ sz'.length = 0) := hr
  clear hf hr hw0
  have HI : Hid ((IsInts w.heap.size w sa sz ∧ IsInts w.heap.size w da dz) ∧ (IsInts w.heap.size w sa' sz' ∧ IsInts w.heap.size w da' dz')) := ⟨⟨hs, hd⟩, hs', hd'⟩
  have HT : Hid ((∀ j, In64 (nth dz j)) ∧ ∀ j, In64 (nth dz' j)) := ⟨T, T'⟩
  have pa := ((Abx.new w (.bool c) (.slice sa sz.length sc) (.slice da dz.length dc)).al (.cells #[.bool c', .slice sa' sz'.length sc', .slice da' dz'.length dc'] 25)).al (.cells #[.bool false, .slice none 0 0, .slice none 0 0] 25)
  have qa := (Abx.new1 w (.cells #[.bool c, .slice sa sz.length sc, .slice da dz.length dc] 25) (.bool c') (.slice sa' sz'.length sc') (.slice da' dz'.length dc')).al (.cells #[.bool false, .slice none 0 0, .slice none 0 0] 25)
  have ra := Abx.new1 (w.alloc (.cells #[.bool c, .slice sa sz.length sc, .slice da dz.length dc] 25)) (.cells #[.bool c', .slice sa' sz'.length sc', .slice da' dz'.length dc'] 25) (.bool false) (.slice none 0 0) (.slice none 0 0)
  rw [World.size_alloc] at ra
  have p0 := pa.c0
  have p1 := pa.c1
  have p2 := pa.c2
  have q0 := qa.c0
  have q1 := qa.c1
  have q2 := qa.c2
  obtain ⟨V0, hV0⟩ : ∃ V0, V0 = ((w.alloc (.cells #[.bool c, .slice sa sz.length sc, .slice da dz.length dc] 25)).alloc (.cells #[.bool c', .slice sa' sz'.length sc', .slice da' dz'.length dc'] 25)).alloc (.cells #[.bool false, .slice none 0 0, .slice none 0 0] 25) := ⟨_, rfl⟩
  have HB0 : Hid (Below w.heap.size w V0) := by rw [hV0]; exact (((Below.refl _ w).alloc (Nat.le_refl _) _).alloc (by simp) _).alloc (by simp; omega) _
  have Pa0 : Hid (Abx V0 w.heap.size (.bool c) (.slice sa sz.length sc) (.slice da dz.length dc)) := by rw [hV0]; exact pa
  have Qb0 : Hid (Abx V0 (w.heap.size + 1) (.bool c') (.slice sa' sz'.length sc') (.slice da' dz'.length dc')) := by rw [hV0]; exact qa
  have Rr0 : Hid (Abx V0 (w.heap.size + 1 + 1) (.bool false) (.slice none 0 0) (.slice none 0 0)) := by rw [hV0]; exact ra
  have HW : Hid (V0 = _) := hV0
  have hC := flaws_any c c' sa sc sz da dc dz sa' sc' sz' da' dc' dz' h1 h2 h1' h2' V0 ((HI.out.1.1.below HB0.out).mono HB0.out.size) ((HI.out.1.2.below HB0.out).mono HB0.out.size) ((HI.out.2.1.below HB0.out).mono HB0.out.size) ((HI.out.2.2.below HB0.out).mono HB0.out.size)
  clear hs hd hs' hd' T T' hV0 pa qa ra
  go_enter Tryd.func8, Tryd.ntmps8
  go_wp2_with fail
  rw [← HW.out]
  refine hC.mono ?_
  rintro e w1 ⟨rfl, hb⟩
  have HB1 : Hid (Below w.heap.size w w1) := HB0.out.trans (hb.mono HB0.out.size)
  have Pa1 : Hid (Abx w1 w.heap.size (.bool c) (.slice sa sz.length sc) (.slice da dz.length dc)) := Pa0.out.go hb
  have Qb1 : Hid (Abx w1 (w.heap.size + 1) (.bool c') (.slice sa' sz'.length sc') (.slice da' dz'.length dc')) := Qb0.out.go hb
  have Rr1 : Hid (Abx w1 (w.heap.size + 1 + 1) (.bool false) (.slice none 0 0) (.slice none 0 0)) := Rr0.out.go hb
  clear hb hC p0 p1 p2 q0 q1 q2 HW
  rw [HW0.out]
  have p0 := Pa1.out.c0
  have p1 := Pa1.out.c1
  have p2 := Pa1.out.c2
  have q0 := Qb1.out.c0
  have q1 := Qb1.out.c1
  have q2 := Qb1.out.c2
  by_cases h0 : sz.length = 0
  · have t1 : ((sz.length : Int) == 0) = true := by rw [h0]; rfl
    clear h0
    have r0 := Rr1.out.c0
    have r1 := Rr1.out.c1
    have r2 := Rr1.out.c2
    have f0 := Rr1.out.fr 0
    have f1 := Rr1.out.fr 1
    have f2 := Rr1.out.fr 2
    go_wp2_with fail
    have FF := Rr1.out.set3 (.bool false) (.slice none 0 0) (.slice none 0 0)
    have z0 := FF.c0
    have z1 := FF.c1
    have z2 := FF.c2
    exact bodyPost_ret (v := .tuple #[.agg #[.bool false, .slice none 0 0, .slice none 0 0], .int .i64 3]) (by simp [results, Tryd.results8, go_sem, z0, z1, z2]) rfl (ur12_no HE.out (by decide) (bel_set3 HB1.out (by omega) _ _ _))
  · have h0' : sz'.length = 0 := HRK.out.resolve_left h0
    have t1 : ((sz.length : Int) == 0) = false := by rw [beq_eq_false_iff_ne]; omega
    have t2 : ((sz'.length : Int) == 0) = true := by rw [h0']; rfl
    clear h0 h0'
    have r0 := Rr1.out.c0
    have r1 := Rr1.out.c1
    have r2 := Rr1.out.c2
    have f0 := Rr1.out.fr 0
    have f1 := Rr1.out.fr 1
    have f2 := Rr1.out.fr 2
    go_wp2_with fail
    have FF := Rr1.out.set3 (.bool false) (.slice none 0 0) (.slice none 0 0)
    have z0 := FF.c0
    have z1 := FF.c1
    have z2 := FF.c2
    exact bodyPost_ret (v := .tuple #[.agg #[.bool false, .slice none 0 0, .slice none 0 0], .int .i64 3]) (by simp [results, Tryd.results8, go_sem, z0, z1, z2]) rfl (ur12_no HE.out (by decide) (bel_set3 HB1.out (by omega) _ _ _))
set_option maxRecDepth 100000 in
set_option maxHeartbeats 8000000 in
theorem innered_main (f g : Int) (c c' : Bool) (sa : Option Addr) (sc : Nat) (sz : List Int) (da : Option Addr) (dc : Nat) (dz : List Int) (sa' : Option Addr) (sc' : Nat) (sz' : List Int) (da' : Option Addr) (dc' : Nat) (dz' : List Int) (h1 : sz.length ≤ 9223372036854775807) (h2 : dz.length ≤ 9223372036854775807) (h1' : sz'.length ≤ 9223372036854775807) (h2' : dz'.length ≤ 9223372036854775807) (w : World) (hs : IsInts w.heap.size w sa sz) (hk : sz.length ≤ sc) (hd : IsInts w.heap.size w da dz) (hs' : IsInts w.heap.size w sa' sz') (hk' : sz'.length ≤ sc') (hd' : IsInts w.heap.size w da' dz') (T : ∀ j, In64 (nth dz j)) (T' : ∀ j, In64 (nth dz' j)) (hf : ¬ ((f < 1 ∨ 16 < f) ∨ g < 1 ∨ 16 < g)) (hw0 : flawsE c sz dz c' sz' dz' = 0) (m m' : Nat) (hm : sz.length = m + 1) (hm' : sz'.length = m' + 1) :
    Calls Tryd.prog 8 #[.int .i64 f, .int .i64 g, .agg #[.bool c, .slice sa (m + 1) sc, .slice da dz.length dc], .agg #[.bool c', .slice sa' (m' + 1) sc', .slice da' dz'.length dc']] w (UR (inE f g c sz dz c' sz' dz') false (niS13 f g c sz dz c' sz' dz') (niD13 f g c sz dz c' sz' dz') w) := by
  unfold niS13 niD13
  obtain ⟨b, off, rfl, hbs, hcs⟩ := hs.at (q := 0) (by omega)
  obtain ⟨b', off', rfl, hbs', hcs'⟩ := hs'.at (q := 0) (by omega)
  obtain ⟨hfa, hfb⟩ := flawsE_zero.1 hw0
  have hza := errOf_zero.1 (flawE_zero hfa).1
  have hzb := errOf_zero.1 (flawE_zero hfb).1
  have hln := hza.2.1.nth m
  obtain ⟨L, hL⟩ : ∃ L : Nat, (L : Int) = inN sz := ⟨(nth sz m).toNat, by unfold inN; rw [show sz.length - 1 = m by omega]; omega⟩
  have hLm : (L : Int) = nth sz m := by rw [hL]; unfold inN; rw [show sz.length - 1 = m by omega]
  have hL4 : L ≤ 4096 := by omega
  have hc0 : w.cell? ⟨b, off + m, none⟩ = some (.int .i64 (L : Nat)) := by rw [hLm]; exact hcs m (by omega)
  obtain ⟨y0, hy0⟩ : ∃ y0, y0 = nth sz' 0 := ⟨_, rfl⟩
  have hd0 : w.cell? ⟨b', off', none⟩ = some (.int .i64 y0) := by have := hcs' 0 (by omega); rw [Nat.add_zero, ← hy0] at this; exact this
  have HF : Hid (¬ ((f < 1 ∨ 16 < f) ∨ g < 1 ∨ 16 < g) ∧ flawsE c sz dz c' sz' dz' = 0 ∧ flawE c sz dz = 0 ∧ flawE c' sz' dz' = 0) := ⟨hf, hw0, hfa, hfb⟩
  have HLN : Hid (sz.length = m + 1 ∧ sz'.length = m' + 1 ∧ (L : Int) = inN sz ∧ y0 = nth sz' 0 ∧ (L : Int) = nth sz m ∧ m + 1 ≤ sc ∧ m' + 1 ≤ sc') := ⟨hm, hm', hL, hy0, hLm, by omega, by omega⟩
  have HCE : Hid ((b < w.heap.size ∧ w.cell? ⟨b, off + m, none⟩ = some (.int .i64 (L : Nat))) ∧ b' < w.heap.size ∧ w.cell? ⟨b', off', none⟩ = some (.int .i64 y0)) := ⟨⟨hbs, hc0⟩, hbs', hd0⟩
  have hl6 : m + 1 ≤ 6 := by rw [← hm]; exact hza.1
  have hl6' : m' + 1 ≤ 6 := by rw [← hm']; exact hzb.1
  have flo : ¬ f < 1 := by omega
  have fhi : ¬ 16 < f := by omega
  have glo : ¬ g < 1 := by omega
  have ghi : ¬ 16 < g := by omega
  clear hf hw0 hfa hfb hza hzb hln hL hLm hc0 hy0 hd0 hbs hbs' hcs hcs' hk hk'
  have HI : Hid ((IsInts w.heap.size w (some ⟨b, off, none⟩) sz ∧ IsInts w.heap.size w da dz) ∧ (IsInts w.heap.size w (some ⟨b', off', none⟩) sz' ∧ IsInts w.heap.size w da' dz')) := ⟨⟨hs, hd⟩, hs', hd'⟩
  have HT : Hid ((∀ j, In64 (nth dz j)) ∧ ∀ j, In64 (nth dz' j)) := ⟨T, T'⟩
  have pa := ((Abx.new w (.bool c) (.slice (some ⟨b, off, none⟩) (m + 1) sc) (.slice da dz.length dc)).al (.cells #[.bool c', .slice (some ⟨b', off', none⟩) (m' + 1) sc', .slice da' dz'.length dc'] 25)).al (.cells #[.bool false, .slice none 0 0, .slice none 0 0] 25)
  have qa := (Abx.new1 w (.cells #[.bool c, .slice (some ⟨b, off, none⟩) (m + 1) sc, .slice da dz.length dc] 25) (.bool c') (.slice (some ⟨b', off', none⟩) (m' + 1) sc') (.slice da' dz'.length dc')).al (.cells #[.bool false, .slice none 0 0, .slice none 0 0] 25)
  have ra := Abx.new1 (w.alloc (.cells #[.bool c, .slice (some ⟨b, off, none⟩) (m + 1) sc, .slice da dz.length dc] 25)) (.cells #[.bool c', .slice (some ⟨b', off', none⟩) (m' + 1) sc', .slice da' dz'.length dc'] 25) (.bool false) (.slice none 0 0) (.slice none 0 0)
  rw [World.size_alloc] at ra
  have p0 := pa.c0
  have p1 := pa.c1
  have p2 := pa.c2
  have q0 := qa.c0
  have q1 := qa.c1
  have q2 := qa.c2
  obtain ⟨V0, hV0⟩ : ∃ V0, V0 = ((w.alloc (.cells #[.bool c, .slice (some ⟨b, off, none⟩) (m + 1) sc, .slice da dz.length dc] 25)).alloc (.cells #[.bool c', .slice (some ⟨b', off', none⟩) (m' + 1) sc', .slice da' dz'.length dc'] 25)).alloc (.cells #[.bool false, .slice none 0 0, .slice none 0 0] 25) := ⟨_, rfl⟩
  have HB0 : Hid (Below w.heap.size w V0) := by rw [hV0]; exact (((Below.refl _ w).alloc (Nat.le_refl _) _).alloc (by simp) _).alloc (by simp; omega) _
  have Pa0 : Hid (Abx V0 w.heap.size (.bool c) (.slice (some ⟨b, off, none⟩) (m + 1) sc) (.slice da dz.length dc)) := by rw [hV0]; exact pa
  have Qb0 : Hid (Abx V0 (w.heap.size + 1) (.bool c') (.slice (some ⟨b', off', none⟩) (m' + 1) sc') (.slice da' dz'.length dc')) := by rw [hV0]; exact qa
  have Rr0 : Hid (Abx V0 (w.heap.size + 1 + 1) (.bool false) (.slice none 0 0) (.slice none 0 0)) := by rw [hV0]; exact ra
  have HW : Hid (V0 = _) := hV0
  have hC := flaws_any c c' (some ⟨b, off, none⟩) sc sz da dc dz (some ⟨b', off', none⟩) sc' sz' da' dc' dz' h1 h2 h1' h2' V0 ((HI.out.1.1.below HB0.out).mono HB0.out.size) ((HI.out.1.2.below HB0.out).mono HB0.out.size) ((HI.out.2.1.below HB0.out).mono HB0.out.size) ((HI.out.2.2.below HB0.out).mono HB0.out.size)
  rw [hm, hm'] at hC
  clear hs hd hs' hd' T T' hV0 pa qa ra
  go_enter Tryd.func8, Tryd.ntmps8
  go_wp2_with fail
  rw [← HW.out]
  refine hC.mono ?_
  rintro e w1 ⟨rfl, hb⟩
  have HB1 : Hid (Below w.heap.size w w1) := HB0.out.trans (hb.mono HB0.out.size)
  have Pa1 : Hid (Abx w1 w.heap.size (.bool c) (.slice (some ⟨b, off, none⟩) (m + 1) sc) (.slice da dz.length dc)) := Pa0.out.go hb
  have Qb1 : Hid (Abx w1 (w.heap.size + 1) (.bool c') (.slice (some ⟨b', off', none⟩) (m' + 1) sc') (.slice da' dz'.length dc')) := Qb0.out.go hb
  have Rr1 : Hid (Abx w1 (w.heap.size + 1 + 1) (.bool false) (.slice none 0 0) (.slice none 0 0)) := Rr0.out.go hb
  clear hb hC p0 p1 p2 q0 q1 q2 HW
  rw [HF.out.2.1]
  clear hm hm'
  have hcap : m + 1 ≤ sc := HLN.out.2.2.2.2.2.1
  have hcap' : m' + 1 ≤ sc' := HLN.out.2.2.2.2.2.2
  have e1 : w1.cell? ⟨b, off + m, none⟩ = some (.int .i64 (L : Nat)) := (HB1.out.cell (p := ⟨b, off + m, none⟩) HCE.out.1.1).trans HCE.out.1.2
  have e2 : w1.cell? ⟨b', off', none⟩ = some (.int .i64 y0) := (HB1.out.cell (p := ⟨b', off', none⟩) HCE.out.2.1).trans HCE.out.2.2
  have t1 : ((m : Int) + 1 == 0) = false := by simp; omega
  have t2 : ((m' : Int) + 1 == 0) = false := by simp; omega
  have wm : IntKind.i64.wrap (m : Int) = (m : Int) := IntWalk.i64_in _ (by omega)
  have p0 := Pa1.out.c0
  have p1 := Pa1.out.c1
  have p2 := Pa1.out.c2
  have q0 := Qb1.out.c0
  have q1 := Qb1.out.c1
  have q2 := Qb1.out.c2
  by_cases hlen : (L : Int) = y0
  · subst hlen
    have tn : ((L : Int) != (L : Int)) = false := by simp
    have HNE : Hid (inE f g c sz dz c' sz' dz' = _) := ni_E HF.out.1 HF.out.2.1 (by rw [HLN.out.1]; omega) (by rw [HLN.out.2.1]; omega) (by rw [← HLN.out.2.2.1]; exact HLN.out.2.2.2.1)
    obtain ⟨ta, hta⟩ : ∃ ta, (if sc' = 1 then some (⟨b', off', none⟩ : Addr) else some ⟨b', off' + 1, none⟩) = ta := ⟨_, rfl⟩
    have t3 : (1 : Int) ≤ (m' : Int) + 1 := by omega
    have t4 : m ≤ sc := by omega
    have hbd1 : Below w.heap.size w w1.drew := HB1.out.drew
    have hjo := joined_r (some ⟨b, off, none⟩) sc (sz.take m) m (by rw [List.length_take, HLN.out.1]; omega) ta (sc' - 1) (sz'.drop 1) m' (by rw [List.length_drop, HLN.out.2.1]; omega) (by omega) w1.drew (is_take13 ((HI.out.1.1.below hbd1).mono hbd1.size) m) (by rw [← hta]; exact is_tail13 ((HI.out.2.1.below hbd1).mono hbd1.size) (by rw [HLN.out.2.1]; omega) (by rw [HLN.out.2.1]; omega))
    go_wp2_with fail
    refine anyC_begin (fun w' => w'.cell? ⟨w.heap.size, 1, none⟩ = some (.slice (some ⟨b, off, none⟩) (m + 1) sc) ∧ w'.cell? ⟨w.heap.size + 1, 1, none⟩ = some (.slice (some ⟨b', off', none⟩) (m' + 1) sc')) 10 #[false, false, false, false, false, false, false, false, false, false] (by kernel_rfl) rfl rfl ?_
    refine anyC_put 0 72 ?rv0 #[true, false, false, false, false, false, false, false, false, false] rfl rfl rfl (by kernel_rfl) (by kernel_rfl) (by kernel_rfl) (fun _ _ _ h => h) ?ry0 (⟨p1, q1⟩) ?rm0
    case ry0 => first | exact Or.inl ⟨by rfl, by intro w'; go_simp; first | done | rfl⟩
    case rm0 =>
    simp only [Act.put, List.setIfInBounds_toArray, List.set_cons_zero, List.set_cons_succ]
    refine anyC_take 1 73 ?rv1 #[true, true, false, false, false, false, false, false, false, false] rfl rfl rfl (by kernel_rfl) (by kernel_rfl) (by kernel_rfl) (fun _ _ _ h => h) ?ry1 (⟨p1, q1⟩) ?rm1
    case ry1 => first | exact Or.inl ⟨by rfl, by intro w' hw'; (try dsimp only at hw'); go_simp; first | done | rfl⟩
    case rm1 =>
    simp only [Act.put, List.setIfInBounds_toArray, List.set_cons_zero, List.set_cons_succ]
    refine anyC_put 2 74 ?rv2 #[true, true, true, false, false, false, false, false, false, false] rfl rfl rfl (by kernel_rfl) (by kernel_rfl) (by kernel_rfl) (fun _ _ _ h => h) ?ry2 (⟨p1, q1⟩) ?rm2
    case ry2 => first | exact Or.inl ⟨by rfl, by intro w'; go_simp; first | done | rfl⟩
    case rm2 =>
    simp only [Act.put, List.setIfInBounds_toArray, List.set_cons_zero, List.set_cons_succ]
    refine anyC_put 3 75 ?rv3 #[true, true, true, true, false, false, false, false, false, false] rfl rfl rfl (by kernel_rfl) (by kernel_rfl) (by kernel_rfl) (fun _ _ _ h => h) ?ry3 (⟨p1, q1⟩) ?rm3
    case ry3 => first | exact Or.inl ⟨by rfl, by intro w'; go_simp; first | done | rfl⟩
    case rm3 =>
    simp only [Act.put, List.setIfInBounds_toArray, List.set_cons_zero, List.set_cons_succ]
    refine anyC_put 4 76 ?rv4 #[true, true, true, true, true, false, false, false, false, false] rfl rfl rfl (by kernel_rfl) (by kernel_rfl) (by kernel_rfl) (fun _ _ _ h => h) ?ry4 (⟨p1, q1⟩) ?rm4
    case ry4 => first | exact Or.inl ⟨by rfl, by intro w'; go_simp; first | done | rfl⟩
    case rm4 =>
    simp only [Act.put, List.setIfInBounds_toArray, List.set_cons_zero, List.set_cons_succ]
    refine anyC_put 5 77 ?rv5 #[true, true, true, true, true, true, false, false, false, false] rfl rfl rfl (by kernel_rfl) (by kernel_rfl) (by kernel_rfl) (fun _ _ _ h => h) ?ry5 (⟨p1, q1⟩) ?rm5
    case ry5 => first | exact Or.inl ⟨by rfl, by intro w'; go_simp; first | done | rfl⟩
    case rm5 =>
    simp only [Act.put, List.setIfInBounds_toArray, List.set_cons_zero, List.set_cons_succ]
    refine anyC_take 6 78 ?rv6 #[true, true, true, true, true, true, true, false, false, false] rfl rfl rfl (by kernel_rfl) (by kernel_rfl) (by kernel_rfl) (fun _ _ _ h => h) ?ry6 (⟨p1, q1⟩) ?rm6
    case ry6 => first | exact Or.inl ⟨by rfl, by intro w' hw'; (try dsimp only at hw'); go_simp; first | done | rfl⟩
    case rm6 =>
    simp only [Act.put, List.setIfInBounds_toArray, List.set_cons_zero, List.set_cons_succ]
    refine anyC_put 7 79 ?rv7 #[true, true, true, true, true, true, true, true, false, false] rfl rfl rfl (by kernel_rfl) (by kernel_rfl) (by kernel_rfl) (fun _ _ _ h => h) ?ry7 (⟨p1, q1⟩) ?rm7
    case ry7 => first | exact Or.inl ⟨by rfl, by intro w'; go_simp; first | done | rfl⟩
    case rm7 =>
    simp only [Act.put, List.setIfInBounds_toArray, List.set_cons_zero, List.set_cons_succ]
    refine anyC_one 8 #[true, true, true, true, true, true, true, true, true, false] (by kernel_rfl) rfl rfl (fun K hK => ?_)
    go_simp
    try rw [hta]
    go_wp2_with (go_at_call 11; refine hjo.mono ?_; rintro e w2 ⟨ga, gc, rfl, hN, hb2⟩)
    have hb : Below w1.heap.size w1 w2 := (Below.refl _ w1).drew.trans hb2
    refine hK.out _ _ (⟨cell_to p1 hb, cell_to q1 hb⟩) ?_
    clear hK K
    refine anyC_put 9 13 ?rv9 #[true, true, true, true, true, true, true, true, true, true] rfl rfl rfl (by kernel_rfl) (by kernel_rfl) (by kernel_rfl) (fun _ _ _ h => h) ?ry9 (⟨cell_to p1 hb, cell_to q1 hb⟩) ?rm9
    case ry9 => first | exact Or.inl ⟨by rfl, by intro w'; go_simp; first | done | rfl⟩
    case rm9 =>
    simp only [Act.put, List.setIfInBounds_toArray, List.set_cons_zero, List.set_cons_succ]
    refine anyC_done (by kernel_rfl) ?_
    have HB2 : Hid (Below w.heap.size w w2) := HB1.out.trans (hb.mono HB1.out.size)
    have Pa2 : Hid (Abx w2 w.heap.size (.bool c) (.slice (some ⟨b, off, none⟩) (m + 1) sc) (.slice da dz.length dc)) := Pa1.out.go hb
    have Qb2 : Hid (Abx w2 (w.heap.size + 1) (.bool c') (.slice (some ⟨b', off', none⟩) (m' + 1) sc') (.slice da' dz'.length dc')) := Qb1.out.go hb
    have Rr2 : Hid (Abx w2 (w.heap.size + 1 + 1) (.bool false) (.slice none 0 0) (.slice none 0 0)) := Rr1.out.go hb
    obtain ⟨S, hS⟩ : ∃ S, S = inS sz sz' := ⟨_, rfl⟩
    obtain ⟨n, hn⟩ : ∃ n, n = m + m' := ⟨_, rfl⟩
    have hS2 : S = sz.take m ++ sz'.drop 1 := by rw [hS]; unfold inS; rw [HLN.out.1, Nat.add_sub_cancel]
    have HS : Hid (S = inS sz sz' ∧ S.length = n ∧ n = m + m') := ⟨hS, by rw [hS2, hn, List.length_append, List.length_take, List.length_drop, HLN.out.1, HLN.out.2.1]; omega, hn⟩
    have hn12 : n ≤ 12 := by omega
    rw [← hn]
    rw [← hS2] at hN
    obtain ⟨g0, rfl⟩ : ∃ g0, g0 = ga := ⟨_, rfl⟩
    have HM : Hid (MidC w1.heap.size w2.heap.size w2 g0 S gc) := hN.midc
    have hfault := fault_l g0 gc S n HS.out.2.1 (by omega) w2.heap.size w2 hN.ints.1
    have hz12 := hb.size
    clear hb hb2 hS hn hS2 hN hjo hta t3 t4 hbd1 e1 e2 t1 t2 tn p0 p1 p2 q0 q1 q2
    go_wp2_with fail
    refine hfault.mono ?_
    rintro e w3 ⟨rfl, hw3⟩
    obtain rfl := hw3.symm
    clear hfault hw3
    by_cases he : errOf S = 0
    · obtain ⟨N, hN⟩ : ∃ N, N = (prod S).toNat := ⟨_, rfl⟩
      have hz := errOf_zero.1 he
      have h0N := prod_nonneg hz.2.1
      have HN : Hid ((N : Int) = prod S ∧ errOf S = 0 ∧ N = (prod S).toNat) := ⟨by omega, he, hN⟩
      have hN4 : N ≤ 4096 := by omega
      rw [he]
      clear he hN hz h0N
      have p0 := Pa2.out.c0
      have p1 := Pa2.out.c1
      have p2 := Pa2.out.c2
      have q0 := Qb2.out.c0
      have q1 := Qb2.out.c1
      have q2 := Qb2.out.c2
      obtain ⟨BC, hBC⟩ : ∃ BC : Bool, BC = decide ((c = true ∨ c' = true) ∧ g ≠ 8 ∧ g ≠ 9) := ⟨_, rfl⟩
      have HBC : Hid (BC = decide ((c = true ∨ c' = true) ∧ g ≠ 8 ∧ g ≠ 9)) := hBC
      clear hBC
      go_upto_region 16 with fail
      go_cut [97] (fun s97 wc => s97 = .bool BC ∧ wc = w2)
      case first =>
        cases c
        · cases c'
          · go_wp2_with fail
            go_meet
            exact ⟨by rw [HBC.out]; simp, rfl⟩
          · go_wp2_with (go_at_call 13; refine (compares_any g w2).mono ?_; rintro e u1 ⟨rfl, hu1⟩; obtain rfl := hu1.symm; clear hu1)
            go_meet
            exact ⟨by rw [HBC.out]; simp, rfl⟩
        · go_wp2_with (go_at_call 13; refine (compares_any g w2).mono ?_; rintro e u1 ⟨rfl, hu1⟩; obtain rfl := hu1.symm; clear hu1)
          go_meet
          exact ⟨by rw [HBC.out]; simp, rfl⟩
      case rest =>
        obtain ⟨rfl, hwc⟩ := hcut
        obtain rfl := hwc.symm
        clear hwc p0 p1 p2 q0 q1 q2
        cases BC
        · have HK : Hid (¬ ((c = true ∨ c' = true) ∧ g ≠ 8 ∧ g ≠ 9)) := of_decide_eq_false HBC.out.symm
          clear HBC
          go_wp2_with fail
          refine (rneut_any f w2).mono ?_
          rintro e w3 ⟨rfl, hw3⟩
          obtain rfl := hw3.symm
          clear hw3
          obtain ⟨NE, hNE⟩ : ∃ NE, NE = neutE f := ⟨_, rfl⟩
          rw [← hNE]
          have HNe : Hid (NE = neutE f) := hNE
          clear hNE
          obtain ⟨BN, hBN⟩ : ∃ BN : Bool, BN = decide (L = 0 ∧ NE ≠ 0) := ⟨_, rfl⟩
          have HBN : Hid (BN = decide (L = 0 ∧ NE ≠ 0)) := hBN
          clear hBN
          go_upto_region 19 with fail
          go_cut [109] (fun s109 wc => s109 = .bool BN ∧ wc = w2)
          case first =>
            by_cases h0 : L = 0
            · have u0 : ((L : Int) == 0) = true := by rw [h0]; rfl
              by_cases h1 : NE = 0
              · have u1 : (NE != 0) = false := by simp [h1]
                have HB : Hid (BN = false) := by show _ = _; rw [HBN.out]; simp [h1]
                clear h0 h1
                go_wp2_with fail
                go_meet
                exact ⟨by rw [HB.out], rfl⟩
              · have u1 : (NE != 0) = true := by simp [h1]
                have HB : Hid (BN = true) := by show _ = _; rw [HBN.out]; simp [h0, h1]
                clear h0 h1
                go_wp2_with fail
                go_meet
                exact ⟨by rw [HB.out], rfl⟩
            · have u0 : ((L : Int) == 0) = false := by simp; omega
              have HB : Hid (BN = false) := by show _ = _; rw [HBN.out]; simp [h0]
              clear h0
              go_wp2_with fail
              go_meet
              exact ⟨by rw [HB.out], rfl⟩
          case rest =>
            obtain ⟨rfl, hwc⟩ := hcut
            obtain rfl := hwc.symm
            clear hwc
            cases BN
            · have HKN : Hid (¬ (inN sz = 0 ∧ neutE f ≠ 0)) := by
                show ¬ _
                have := of_decide_eq_false HBN.out.symm
                rw [← HLN.out.2.2.1, ← HNe.out]
                omega
              clear HBN HNe
              obtain ⟨D, hD⟩ : ∃ D, D = inD f g c sz dz c' sz' dz' := ⟨_, rfl⟩
              have HD : Hid (D = inD f g c sz dz c' sz' dz' ∧ D.length = N ∧ ∀ k, k < N → nth D k = fdV f (inL g c sz dz c' sz' dz' (cr S k))) := ⟨hD, by rw [hD]; unfold inD; rw [← HS.out.1, TA_length]; exact HN.out.2.2.symm, fun k hk => by rw [hD]; unfold inD; rw [← HS.out.1, TA_nth (by rw [← HN.out.2.2]; exact hk)]⟩
              obtain ⟨B, hBB⟩ : ∃ B, B = w2.heap.size := ⟨_, rfl⟩
              obtain ⟨u, hu⟩ : ∃ u, u = w2.alloc (.cells #[.bool false, .slice g0 n gc, .slice none 0 0] 25) := ⟨_, rfl⟩
              have hus : u.heap.size = w2.heap.size + 1 := by rw [hu]; simp
              have HU : Hid (w2.alloc (.cells #[.bool false, .slice g0 n gc, .slice none 0 0] 25) = u ∧ w2.heap.size = B) := ⟨hu.symm, hBB.symm⟩
              have HUA : Hid (Abx u w.heap.size (.bool c) (.slice (some ⟨b, off, none⟩) (m + 1) sc) (.slice da dz.length dc) ∧ Abx u (w.heap.size + 1) (.bool c') (.slice (some ⟨b', off', none⟩) (m' + 1) sc') (.slice da' dz'.length dc') ∧ Abx u (w.heap.size + 1 + 1) (.bool false) (.slice none 0 0) (.slice none 0 0) ∧ Abx u B (.bool false) (.slice g0 n gc) (.slice none 0 0) ∧ MidC w1.heap.size B u g0 S gc ∧ Below w.heap.size w u) := by
                rw [hu, hBB]
                exact ⟨Pa2.out.al _, Qb2.out.al _, Rr2.out.al _, Abx.new _ _ _ _, HM.out.al (Nat.le_refl _) _, HB2.out.alloc HB2.out.size _⟩
              have hBu : B < u.heap.size := by omega
              have hvB : w1.heap.size ≤ B := by omega
              have hw1 : w.heap.size + 1 + 1 < w1.heap.size := Rr1.out.lt
              have hcells := cells_l g0 gc S n N HS.out.2.1 HN.out.1.symm (by omega) HN.out.2.1 u.heap.size u (HUA.out.2.2.2.2.1.is (by omega)).1
              clear hD hBB hu hus hz12 Pa2 Qb2 Rr2 HB2 HM Pa1 Qb1 Rr1 HB1 Pa0 Qb0 Rr0 HB0
              go_wp2_with fail
              rw [HU.out.1]
              refine hcells.mono ?_
              rintro e v7 ⟨rfl, hv7⟩
              obtain rfl := hv7.symm
              clear hcells hv7
              go_wp2_with fail
              rw [HU.out.2]
              go_loopw [16] (fun i wq => ∃ (q : Nat) (v : Value), q ≤ N ∧ i = .int .i64 q ∧ (∀ i, i < q → inX f g c sz dz c' sz' dz' (cr S i) = 0) ∧ (Abx wq w.heap.size (.bool c) (.slice (some ⟨b, off, none⟩) (m + 1) sc) (.slice da dz.length dc) ∧ Abx wq (w.heap.size + 1) (.bool c') (.slice (some ⟨b', off', none⟩) (m' + 1) sc') (.slice da' dz'.length dc') ∧ Abx wq (w.heap.size + 1 + 1) (.bool false) (.slice none 0 0) (.slice none 0 0) ∧ Abx wq B (.bool false) (.slice g0 n gc) v ∧ MidC w1.heap.size B wq g0 S gc ∧ wq.ownsRow u.heap.size 3 1 v (D.take q).length ((D.take q).map (Value.int .i64)) ∧ u.heap.size ≤ wq.heap.size ∧ Below w.heap.size w wq)) (fun i _ => N - (intOf i).toNat)
              case atStart => exact ⟨0, .slice none 0 0, Nat.zero_le _, rfl, fun i hi => absurd hi (Nat.not_lt_zero _), HUA.out.1, HUA.out.2.1, HUA.out.2.2.1, HUA.out.2.2.2.1, HUA.out.2.2.2.2.1, World.ownsRow_nil _ _ _ _, Nat.le_refl _, HUA.out.2.2.2.2.2⟩
              case round =>
                clear HUA HU
                obtain ⟨q, v, hqN, rfl, hok, hst⟩ := hrel
                by_cases hlq : q < N
                · obtain ⟨t, ht⟩ : ∃ t, t = cr S q := ⟨_, rfl⟩
                  have hcr := (cr_fact HN.out.2.1 (i := q) (by rw [← HN.out.1]; omega)).1
                  rw [← ht] at hcr
                  have htl : t.length = n := by rw [insB_len hcr]; exact HS.out.2.1
                  obtain ⟨Q, hQ⟩ : ∃ Q, Q = D.take q := ⟨_, rfl⟩
                  rw [← hQ] at hst
                  have HQ : Hid (Q.length = q ∧ D.take (q + 1) = Q ++ [nth D q]) := ⟨by rw [hQ, List.length_take, HD.out.2.1]; omega, by rw [hQ, take_snoc D q (by rw [HD.out.2.1]; exact hlq)]⟩
                  have HOk : Hid (∀ i, i < q → inX f g c sz dz c' sz' dz' (cr S i) = 0) := hok
                  have H0 : Hid (Abx wr w.heap.size (.bool c) (.slice (some ⟨b, off, none⟩) (m + 1) sc) (.slice da dz.length dc) ∧ Abx wr (w.heap.size + 1) (.bool c') (.slice (some ⟨b', off', none⟩) (m' + 1) sc') (.slice da' dz'.length dc') ∧ Abx wr (w.heap.size + 1 + 1) (.bool false) (.slice none 0 0) (.slice none 0 0) ∧ Abx wr B (.bool false) (.slice g0 n gc) v ∧ MidC w1.heap.size B wr g0 S gc ∧ wr.ownsRow u.heap.size 3 1 v Q.length (Q.map (Value.int .i64)) ∧ u.heap.size ≤ wr.heap.size ∧ Below w.heap.size w wr) := hst
                  have hco := coords_c g0 gc S n q HS.out.2.1 HN.out.2.1 (by rw [← HN.out.1]; omega) wr (hst.2.2.2.2.1.is (by have := hst.2.2.2.2.2.2.1; omega)).1
                  rw [← ht] at hco
                  clear hok hst hQ
                  go_wp2_with fail
                  refine hco.mono ?_
                  rintro e w5 ⟨g2, rfl, hg2, hr2, hB1⟩
                  have H1 : Hid (Abx w5 w.heap.size (.bool c) (.slice (some ⟨b, off, none⟩) (m + 1) sc) (.slice da dz.length dc) ∧ Abx w5 (w.heap.size + 1) (.bool c') (.slice (some ⟨b', off', none⟩) (m' + 1) sc') (.slice da' dz'.length dc') ∧ Abx w5 (w.heap.size + 1 + 1) (.bool false) (.slice none 0 0) (.slice none 0 0) ∧ Abx w5 B (.bool false) (.slice g0 n gc) v ∧ MidC w1.heap.size B w5 g0 S gc ∧ w5.ownsRow u.heap.size 3 1 v Q.length (Q.map (Value.int .i64)) ∧ u.heap.size ≤ w5.heap.size ∧ Below w.heap.size w w5) := ⟨H0.out.1.go hB1, H0.out.2.1.go hB1, H0.out.2.2.1.go hB1, H0.out.2.2.2.1.go hB1, H0.out.2.2.2.2.1.go (by have := H0.out.2.2.2.2.2.2.1; omega) hB1, own_go H0.out.2.2.2.2.2.1 hB1, Nat.le_trans H0.out.2.2.2.2.2.2.1 hB1.size, H0.out.2.2.2.2.2.2.2.trans (hB1.mono H0.out.2.2.2.2.2.2.2.size)⟩
                  have hg2l := hr2.lt
                  have HG2 : Hid (w5.rowIs g2 3 n (fun j => .int .i64 (nth t j))) := hr2
                  have hb1u : u.heap.size ≤ w5.heap.size := H1.out.2.2.2.2.2.2.1
                  clear hco hB1 hr2 H0 hg2
                  obtain ⟨n1, n2, n3, n4, n5, n6⟩ := ni_lines (g := g) (c := c) (c' := c') (dz := dz) (dz' := dz') HLN.out.1 HLN.out.2.1 HLN.out.2.2.1 HLN.out.2.2.2.1 (t := t) (by rw [← HS.out.1]; exact hcr)
                  obtain ⟨XL, hXL⟩ : ∃ XL, XL = lnL sz dz m (t.take m ++ [0]) ((0 : Nat) : Int) L := ⟨_, rfl⟩
                  obtain ⟨VL, hVL⟩ : ∃ VL, VL = lnL sz' dz' 0 ([0] ++ t.drop m) ((0 : Nat) : Int) L := ⟨_, rfl⟩
                  obtain ⟨YV, hYV⟩ : ∃ YV, YV = inL g c sz dz c' sz' dz' t := ⟨_, rfl⟩
                  rw [← hXL, ← hVL, ← hYV] at n5
                  rw [← hXL, ← hVL] at n6
                  rw [← hYV] at n4
                  have HIN : Hid ((∀ j : Nat, j < L → insB sz ((t.take m ++ [0]).set m (((0 : Nat) : Int) + j)) = true) ∧ ∀ j : Nat, j < L → insB sz' (([0] ++ t.drop m).set 0 (((0 : Nat) : Int) + j)) = true) := ⟨n1, n2⟩
                  have HXV : Hid (XL = lnL sz dz m (t.take m ++ [0]) ((0 : Nat) : Int) L ∧ VL = lnL sz' dz' 0 ([0] ++ t.drop m) ((0 : Nat) : Int) L ∧ YV = inL g c sz dz c' sz' dz' t ∧ XL.length = L ∧ VL.length = L) := ⟨hXL, hVL, hYV, by rw [hXL]; exact lnL_length _ _ _ _ _ _, by rw [hVL]; exact lnL_length _ _ _ _ _ _⟩
                  have HYV : Hid (YV.length = L ∧ (∀ j : Nat, j < L → nth YV j = tcV g (c == c') (nth XL j) (nth VL j)) ∧ (inO g c sz dz c' sz' dz' t = true ↔ ∀ j : Nat, j < L → tcE g (c == c') (nth XL j) (nth VL j) = 0)) := ⟨n4, n5, n6⟩
                  have H64 : Hid ((∀ j, In64 (nth XL j)) ∧ (∀ j, In64 (nth VL j)) ∧ ∀ j, In64 (nth YV j)) := ⟨by rw [hXL]; exact l64n (lnL_64 HT.out.1 _ _ _ _), by rw [hVL]; exact l64n (lnL_64 HT.out.2 _ _ _ _), by rw [hYV]; exact l64n (inL_64 HT.out.1 HT.out.2 _)⟩
                  have hmn : m ≤ n := by have := HS.out.2.2; omega
                  have hmI : (m : Int) ≤ (n : Int) := by omega
                  have hnm : n - m = m' := by have := HS.out.2.2; omega
                  have HTL : Hid ((t.take m).length = m ∧ (t.drop m).length = m' ∧ (t.take m ++ [0]).length = m + 1 ∧ ([0] ++ t.drop m).length = m' + 1) := ⟨by rw [List.length_take]; omega, by rw [List.length_drop]; omega, by rw [List.length_append, List.length_take]; simp; omega, by rw [List.length_append, List.length_drop]; simp; omega⟩
                  clear n1 n2 n3 n4 n5 n6 hXL hVL hYV
                  have HWb : Hid (Below w.heap.size w w5) := H1.out.2.2.2.2.2.2.2
                  have HX1 : Hid (IsInts w5.heap.size w5 (some ⟨g2, 0, none⟩) (t.take m)) := .inr ⟨g2, 0, rfl, hg2l, fun j hj => by rw [List.length_take] at hj; rw [nth_take _ _ _ (by omega), Nat.zero_add]; exact HG2.out.cell (by omega)⟩
                  obtain ⟨AD, hAD⟩ : ∃ AD, (if n = m then some (⟨g2, 0, none⟩ : Addr) else some ⟨g2, m, none⟩) = AD := ⟨_, rfl⟩
                  have HAI : Hid (IsInts w5.heap.size w5 AD (t.drop m)) := by
                    show IsInts _ _ _ _
                    rw [← hAD]
                    split
                    · rename_i e; rw [List.drop_eq_nil_of_le (by omega)]; exact .inl rfl
                    · exact .inr ⟨g2, m, rfl, hg2l, fun j hj => by rw [List.length_drop] at hj; rw [nth_drop12]; exact HG2.out.cell (by omega)⟩
                  have HSD : Hid ((errOf sz = 0 ∧ (dz.length : Int) = prod sz) ∧ errOf sz' = 0 ∧ (dz'.length : Int) = prod sz') := ⟨⟨(flawE_zero HF.out.2.2.1).1, (flawE_zero HF.out.2.2.1).2.1⟩, (flawE_zero HF.out.2.2.2).1, (flawE_zero HF.out.2.2.2).2.1⟩
                  have a0 := H1.out.1.c0
                  have a1 := H1.out.1.c1
                  have a2 := H1.out.1.c2
                  go_wp2_with fail
                  refine anyC_begin (fun w' => w'.cell? ⟨w.heap.size, 0, none⟩ = some (.bool c) ∧ w'.cell? ⟨w.heap.size, 1, none⟩ = some (.slice (some ⟨b, off, none⟩) (m + 1) sc) ∧ w'.cell? ⟨w.heap.size, 2, none⟩ = some (.slice da dz.length dc)) 12 #[false, false, false, false, false, false, false, false, false, false, false, false] (by kernel_rfl) rfl rfl ?_
                  refine anyC_take 0 124 ?rv10 #[true, false, false, false, false, false, false, false, false, false, false, false] rfl rfl rfl (by kernel_rfl) (by kernel_rfl) (by kernel_rfl) (fun _ _ _ h => h) ?ry10 (⟨a0, a1, a2⟩) ?rm10
                  case ry10 => first | exact Or.inl ⟨by rfl, by intro w' hw'; (try dsimp only at hw'); go_simp; first | done | rfl⟩
                  case rm10 =>
                  simp only [Act.put, List.setIfInBounds_toArray, List.set_cons_zero, List.set_cons_succ]
                  refine anyC_put 1 125 ?rv11 #[true, true, false, false, false, false, false, false, false, false, false, false] rfl rfl rfl (by kernel_rfl) (by kernel_rfl) (by kernel_rfl) (fun _ _ _ h => h) ?ry11 (⟨a0, a1, a2⟩) ?rm11
                  case ry11 => first | exact Or.inl ⟨by rfl, by intro w'; go_simp; first | done | rfl⟩
                  case rm11 =>
                  simp only [Act.put, List.setIfInBounds_toArray, List.set_cons_zero, List.set_cons_succ]
                  refine anyC_put 2 126 ?rv12 #[true, true, true, false, false, false, false, false, false, false, false, false] rfl rfl rfl (by kernel_rfl) (by kernel_rfl) (by kernel_rfl) (fun _ _ _ h => h) ?ry12 (⟨a0, a1, a2⟩) ?rm12
                  case ry12 => first | exact Or.inl ⟨by rfl, by intro w'; go_simp; first | done | rfl⟩
                  case rm12 =>
                  simp only [Act.put, List.setIfInBounds_toArray, List.set_cons_zero, List.set_cons_succ]
                  refine anyC_put 3 127 ?rv13 #[true, true, true, true, false, false, false, false, false, false, false, false] rfl rfl rfl (by kernel_rfl) (by kernel_rfl) (by kernel_rfl) (fun _ _ _ h => h) ?ry13 (⟨a0, a1, a2⟩) ?rm13
                  case ry13 => first | exact Or.inl ⟨by rfl, by intro w'; go_simp; first | done | rfl⟩
                  case rm13 =>
                  simp only [Act.put, List.setIfInBounds_toArray, List.set_cons_zero, List.set_cons_succ]
                  refine anyC_put 4 128 ?rv14 #[true, true, true, true, true, false, false, false, false, false, false, false] rfl rfl rfl (by kernel_rfl) (by kernel_rfl) (by kernel_rfl) (fun _ _ _ h => h) ?ry14 (⟨a0, a1, a2⟩) ?rm14
                  case ry14 => first | exact Or.inl ⟨by rfl, by intro w'; go_simp; first | done | rfl⟩
                  case rm14 =>
                  simp only [Act.put, List.setIfInBounds_toArray, List.set_cons_zero, List.set_cons_succ]
                  refine anyC_put 5 129 ?rv15 #[true, true, true, true, true, true, false, false, false, false, false, false] rfl rfl rfl (by kernel_rfl) (by kernel_rfl) (by kernel_rfl) (fun _ _ _ h => h) ?ry15 (⟨a0, a1, a2⟩) ?rm15
                  case ry15 => first | exact Or.inl ⟨by rfl, by intro w'; go_simp; first | done | rfl⟩
                  case rm15 =>
                  simp only [Act.put, List.setIfInBounds_toArray, List.set_cons_zero, List.set_cons_succ]
                  refine anyC_put 6 130 ?rv16 #[true, true, true, true, true, true, true, false, false, false, false, false] rfl rfl rfl (by kernel_rfl) (by kernel_rfl) (by kernel_rfl) (fun _ _ _ h => h) ?ry16 (⟨a0, a1, a2⟩) ?rm16
                  case ry16 => first | exact Or.inl ⟨by rfl, by intro w'; go_simp; first | done | rfl⟩
                  case rm16 =>
                  simp only [Act.put, List.setIfInBounds_toArray, List.set_cons_zero, List.set_cons_succ]
                  refine anyC_put 9 133 ?rv17 #[true, true, true, true, true, true, true, false, false, true, false, false] rfl rfl rfl (by kernel_rfl) (by kernel_rfl) (by kernel_rfl) (fun _ _ _ h => h) ?ry17 (⟨a0, a1, a2⟩) ?rm17
                  case ry17 => first | exact Or.inl ⟨by rfl, by intro w'; go_simp; first | done | rfl⟩
                  case rm17 =>
                  simp only [Act.put, List.setIfInBounds_toArray, List.set_cons_zero, List.set_cons_succ]
                  refine anyC_one 7 #[true, true, true, true, true, true, true, true, false, true, false, false] (by kernel_rfl) rfl rfl (fun K hK => ?_)
                  go_simp
                  obtain ⟨w6, hW1⟩ : ∃ W, W = (w5.alloc (.cells #[.int .i64 0] 3)).drew := ⟨_, rfl⟩
                  rw [← hW1]
                  have hbs1 : Below w5.heap.size w5 w6 := by (rw [hW1]; exact ((Below.refl _ w5).alloc (Nat.le_refl _) _).drew)
                  have hba1 : Below w5.heap.size w5 w6 := (Below.refl w5.heap.size w5).trans (hbs1.mono (Below.refl w5.heap.size w5).size)
                  have hzz1 : IsInts w6.heap.size w6 (some ⟨w5.heap.size, 0, none⟩) [0] := by (rw [hW1]; exact (new_lit w5 3 [0]).ints)
                  have hjo1 := joined_r (some ⟨g2, 0, none⟩) n (t.take m) m HTL.out.1 (some ⟨w5.heap.size, 0, none⟩) 1 [0] 1 rfl (by omega) w6 ((HX1.out.below hba1).mono hba1.size) hzz1
                  clear hW1 hzz1
                  refine hK.out _ _ (⟨cell_to a0 hbs1, cell_to a1 hbs1, cell_to a2 hbs1⟩) ?_
                  clear hK K
                  refine anyC_one 8 #[true, true, true, true, true, true, true, true, true, true, false, false] (by kernel_rfl) rfl rfl (fun K hK => ?_)
                  go_simp
                  go_wp2_with (go_at_call 11; refine hjo1.mono ?_; rintro e w7 ⟨g3, g3c, rfl, hNj1, hbj1⟩)
                  have hbt1 : Below w5.heap.size w5 w7 := hbs1.trans (hbj1.mono hbs1.size)
                  have hbq1 : Below w5.heap.size w5 w7 := (Below.refl w5.heap.size w5).trans (hbt1.mono (Below.refl w5.heap.size w5).size)
                  have hbw1 : Below w.heap.size w w7 := HWb.out.trans (hbq1.mono HWb.out.size)
                  have HLn1 : Hid (Calls Tryd.prog 27 #[.agg #[.bool c, .slice (some ⟨b, off, none⟩) (m + 1) sc, .slice da dz.length dc], .int .i64 (m : Nat), .slice g3 (m + 1) g3c, .int .i64 0, .int .i64 (L : Nat)] w7 fun e w' => ∃ g gc, e = .returned (.slice g L gc) ∧ NewC w7.heap.size w' g XL gc ∧ Below w7.heap.size w7 w') := by (rw [HXV.out.1]; exact line2_any c (some ⟨b, off, none⟩) sc sz da dc dz m g3 g3c (t.take m ++ [0]) 0 L (m + 1) HTL.out.2.2.1 HLN.out.1 (by omega) HSD.out.1.1 HSD.out.1.2 HIN.out.1 (by omega) hL4 w7 ((HI.out.1.1.below hbw1).mono hbw1.size) ((HI.out.1.2.below hbw1).mono hbw1.size) hNj1.ints.1)
                  clear hjo1
                  refine hK.out _ _ (⟨cell_to a0 hbt1, cell_to a1 hbt1, cell_to a2 hbt1⟩) ?_
                  clear hK K
                  refine anyC_one 10 #[true, true, true, true, true, true, true, true, true, true, true, false] (by kernel_rfl) rfl rfl (fun K hK => ?_)
                  go_simp
                  go_wp2_with (go_at_call 27; refine HLn1.out.mono ?_; rintro e w8 ⟨gx, gxc, rfl, hNl1, hbl1⟩)
                  have hbu1 : Below w5.heap.size w5 w8 := hbt1.trans (hbl1.mono hbt1.size)
                  have hbv1 : Below w5.heap.size w5 w8 := hbq1.trans (hbl1.mono hbq1.size)
                  refine hK.out _ _ (⟨cell_to a0 hbu1, cell_to a1 hbu1, cell_to a2 hbu1⟩) ?_
                  clear hK K
                  refine anyC_put 11 18 ?rv21 #[true, true, true, true, true, true, true, true, true, true, true, true] rfl rfl rfl (by kernel_rfl) (by kernel_rfl) (by kernel_rfl) (fun _ _ _ h => h) ?ry21 (⟨cell_to a0 hbu1, cell_to a1 hbu1, cell_to a2 hbu1⟩) ?rm21
                  case ry21 => first | exact Or.inl ⟨by rfl, by intro w'; go_simp; first | done | rfl⟩
                  case rm21 =>
                  simp only [Act.put, List.setIfInBounds_toArray, List.set_cons_zero, List.set_cons_succ]
                  refine anyC_done (by kernel_rfl) ?_
                  have HMl1 : Hid (MidC w7.heap.size w8.heap.size w8 gx XL gxc) := hNl1.midc
                  have hs1a : w5.heap.size ≤ w7.heap.size := hbt1.size
                  have hs1b : w7.heap.size ≤ w8.heap.size := hbl1.size
                  clear a0 a1 a2 hNl1 hNj1 HLn1 hbs1 hba1 hbj1 hbt1 hbq1 hbw1 hbl1 hbu1
                  have b0 := cell_to H1.out.2.1.c0 hbv1
                  have b1 := cell_to H1.out.2.1.c1 hbv1
                  have b2 := cell_to H1.out.2.1.c2 hbv1
                  go_wp2_with fail
                  refine anyC_begin (fun w' => w'.cell? ⟨w.heap.size + 1, 0, none⟩ = some (.bool c') ∧ w'.cell? ⟨w.heap.size + 1, 1, none⟩ = some (.slice (some ⟨b', off', none⟩) (m' + 1) sc') ∧ w'.cell? ⟨w.heap.size + 1, 2, none⟩ = some (.slice da' dz'.length dc')) 10 #[false, false, false, false, false, false, false, false, false, false] (by kernel_rfl) rfl rfl ?_
                  refine anyC_take 0 135 ?rv22 #[true, false, false, false, false, false, false, false, false, false] rfl rfl rfl (by kernel_rfl) (by kernel_rfl) (by kernel_rfl) (fun _ _ _ h => h) ?ry22 (⟨b0, b1, b2⟩) ?rm22
                  case ry22 => first | exact Or.inl ⟨by rfl, by intro w' hw'; (try dsimp only at hw'); go_simp; first | done | rfl⟩
                  case rm22 =>
                  simp only [Act.put, List.setIfInBounds_toArray, List.set_cons_zero, List.set_cons_succ]
                  refine anyC_put 2 137 ?rv23 #[true, false, true, false, false, false, false, false, false, false] rfl rfl rfl (by kernel_rfl) (by kernel_rfl) (by kernel_rfl) (fun _ _ _ h => h) ?ry23 (⟨b0, b1, b2⟩) ?rm23
                  case ry23 => first | exact Or.inl ⟨by rfl, by intro w'; go_simp; first | done | rfl⟩
                  case rm23 =>
                  simp only [Act.put, List.setIfInBounds_toArray, List.set_cons_zero, List.set_cons_succ]
                  refine anyC_put 3 138 ?rv24 #[true, false, true, true, false, false, false, false, false, false] rfl rfl rfl (by kernel_rfl) (by kernel_rfl) (by kernel_rfl) (fun _ _ _ h => h) ?ry24 (⟨b0, b1, b2⟩) ?rm24
                  case ry24 => first | exact Or.inl ⟨by rfl, by intro w'; go_simp; first | done | rfl⟩
                  case rm24 =>
                  simp only [Act.put, List.setIfInBounds_toArray, List.set_cons_zero, List.set_cons_succ]
                  refine anyC_put 4 139 ?rv25 #[true, false, true, true, true, false, false, false, false, false] rfl rfl rfl (by kernel_rfl) (by kernel_rfl) (by kernel_rfl) (fun _ _ _ h => h) ?ry25 (⟨b0, b1, b2⟩) ?rm25
                  case ry25 => first | exact Or.inl ⟨by rfl, by intro w'; go_simp; first | done | rfl⟩
                  case rm25 =>
                  simp only [Act.put, List.setIfInBounds_toArray, List.set_cons_zero, List.set_cons_succ]
                  refine anyC_put 5 140 ?rv26 #[true, false, true, true, true, true, false, false, false, false] rfl rfl rfl (by kernel_rfl) (by kernel_rfl) (by kernel_rfl) (fun _ _ _ h => h) ?ry26 (⟨b0, b1, b2⟩) ?rm26
                  case ry26 => first | exact Or.inl ⟨by rfl, by intro w'; go_simp; first | done | rfl⟩
                  case rm26 =>
                  simp only [Act.put, List.setIfInBounds_toArray, List.set_cons_zero, List.set_cons_succ]
                  refine anyC_put 7 142 ?rv27 #[true, false, true, true, true, true, false, true, false, false] rfl rfl rfl (by kernel_rfl) (by kernel_rfl) (by kernel_rfl) (fun _ _ _ h => h) ?ry27 (⟨b0, b1, b2⟩) ?rm27
                  case ry27 => first | exact Or.inl ⟨by rfl, by intro w'; go_simp; first | done | rfl⟩
                  case rm27 =>
                  simp only [Act.put, List.setIfInBounds_toArray, List.set_cons_zero, List.set_cons_succ]
                  refine anyC_one 1 #[true, true, true, true, true, true, false, true, false, false] (by kernel_rfl) rfl rfl (fun K hK => ?_)
                  go_simp
                  obtain ⟨w9, hW2⟩ : ∃ W, W = (w8.alloc (.cells #[.int .i64 0] 3)).drew := ⟨_, rfl⟩
                  rw [← hW2]
                  have hbs2 : Below w8.heap.size w8 w9 := by (rw [hW2]; exact ((Below.refl _ w8).alloc (Nat.le_refl _) _).drew)
                  have hba2 : Below w5.heap.size w5 w9 := (hbv1).trans (hbs2.mono (hbv1).size)
                  have hzz2 : IsInts w9.heap.size w9 (some ⟨w8.heap.size, 0, none⟩) [0] := by (rw [hW2]; exact (new_lit w8 3 [0]).ints)
                  have hjo2 := joined_r (some ⟨w8.heap.size, 0, none⟩) 1 [0] 1 rfl AD m' (t.drop m) m' HTL.out.2.1 (by omega) w9 hzz2 ((HAI.out.below hba2).mono hba2.size)
                  clear hW2 hzz2
                  refine hK.out _ _ (⟨cell_to b0 hbs2, cell_to b1 hbs2, cell_to b2 hbs2⟩) ?_
                  clear hK K
                  refine anyC_one 6 #[true, true, true, true, true, true, true, true, false, false] (by kernel_rfl) rfl rfl (fun K hK => ?_)
                  go_simp
                  try rw [hAD]
                  go_wp2_with (go_at_call 11; refine hjo2.mono ?_; rintro e w10 ⟨g5, g5c, rfl, hNj2, hbj2⟩; rw [Nat.add_comm 1 m'])
                  have hbt2 : Below w8.heap.size w8 w10 := hbs2.trans (hbj2.mono hbs2.size)
                  have hbq2 : Below w5.heap.size w5 w10 := (hbv1).trans (hbt2.mono (hbv1).size)
                  have hbw2 : Below w.heap.size w w10 := HWb.out.trans (hbq2.mono HWb.out.size)
                  have HLn2 : Hid (Calls Tryd.prog 27 #[.agg #[.bool c', .slice (some ⟨b', off', none⟩) (m' + 1) sc', .slice da' dz'.length dc'], .int .i64 0, .slice g5 (m' + 1) g5c, .int .i64 0, .int .i64 (L : Nat)] w10 fun e w' => ∃ g gc, e = .returned (.slice g L gc) ∧ NewC w10.heap.size w' g VL gc ∧ Below w10.heap.size w10 w') := by (rw [HXV.out.2.1]; exact line2_any c' (some ⟨b', off', none⟩) sc' sz' da' dc' dz' 0 g5 g5c ([0] ++ t.drop m) 0 L (m' + 1) HTL.out.2.2.2 HLN.out.2.1 (by omega) HSD.out.2.1 HSD.out.2.2 HIN.out.2 (by omega) hL4 w10 ((HI.out.2.1.below hbw2).mono hbw2.size) ((HI.out.2.2.below hbw2).mono hbw2.size) hNj2.ints.1)
                  clear hjo2
                  refine hK.out _ _ (⟨cell_to b0 hbt2, cell_to b1 hbt2, cell_to b2 hbt2⟩) ?_
                  clear hK K
                  refine anyC_one 8 #[true, true, true, true, true, true, true, true, true, false] (by kernel_rfl) rfl rfl (fun K hK => ?_)
                  go_simp
                  go_wp2_with (go_at_call 27; refine HLn2.out.mono ?_; rintro e w11 ⟨gy, gyc, rfl, hNl2, hbl2⟩)
                  have hbu2 : Below w8.heap.size w8 w11 := hbt2.trans (hbl2.mono hbt2.size)
                  have hbv2 : Below w5.heap.size w5 w11 := hbq2.trans (hbl2.mono hbq2.size)
                  refine hK.out _ _ (⟨cell_to b0 hbu2, cell_to b1 hbu2, cell_to b2 hbu2⟩) ?_
                  clear hK K
                  refine anyC_put 9 19 ?rv31 #[true, true, true, true, true, true, true, true, true, true] rfl rfl rfl (by kernel_rfl) (by kernel_rfl) (by kernel_rfl) (fun _ _ _ h => h) ?ry31 (⟨cell_to b0 hbu2, cell_to b1 hbu2, cell_to b2 hbu2⟩) ?rm31
                  case ry31 => first | exact Or.inl ⟨by rfl, by intro w'; go_simp; first | done | rfl⟩
                  case rm31 =>
                  simp only [Act.put, List.setIfInBounds_toArray, List.set_cons_zero, List.set_cons_succ]
                  refine anyC_done (by kernel_rfl) ?_
                  have HMl2 : Hid (MidC w10.heap.size w11.heap.size w11 gy VL gyc) := hNl2.midc
                  have hs2a : w8.heap.size ≤ w10.heap.size := hbt2.size
                  have hs2b : w10.heap.size ≤ w11.heap.size := hbl2.size
                  have HMx : Hid (MidC w7.heap.size w8.heap.size w11 gx XL gxc) := HMl1.out.go (Nat.le_refl _) hbu2
                  have HBV : Hid (Below w5.heap.size w5 w11) := hbv2
                  clear b0 b1 b2 hNl2 hNj2 HLn2 hbs2 hba2 hbj2 hbt2 hbq2 hbw2 hbl2 hbu2 hbv2 hbv1 HMl1 HX1 HAI hAD HG2 hg2l
                  go_wp2_with fail
                  go_loopw [20] (fun i wq => ∃ k : Nat, k ≤ L ∧ i = .int .i64 k ∧ (∀ j : Nat, j < k → tcE g (c == c') (nth XL j) (nth VL j) = 0) ∧ MidC w7.heap.size w8.heap.size wq gx (mx YV XL k) gxc ∧ MidC w10.heap.size w11.heap.size wq gy VL gyc ∧ Below w5.heap.size w5 wq ∧ w11.heap.size ≤ wq.heap.size) (fun i _ => L - (intOf i).toNat)
                  case atStart => exact ⟨0, Nat.zero_le _, rfl, fun j hj => absurd hj (Nat.not_lt_zero _), by rw [mx_zero (by rw [HYV.out.1, HXV.out.2.2.2.1])]; exact HMx.out, HMl2.out, HBV.out, Nat.le_refl _⟩
                  case round =>
                    clear HMx HMl2 HBV
                    obtain ⟨k, hkL, rfl, hz, hMx, hMy, hB, hsw⟩ := hrel
                    have HST : Hid (Abx wr w.heap.size (.bool c) (.slice (some ⟨b, off, none⟩) (m + 1) sc) (.slice da dz.length dc) ∧ Abx wr (w.heap.size + 1) (.bool c') (.slice (some ⟨b', off', none⟩) (m' + 1) sc') (.slice da' dz'.length dc') ∧ Abx wr (w.heap.size + 1 + 1) (.bool false) (.slice none 0 0) (.slice none 0 0) ∧ Abx wr B (.bool false) (.slice g0 n gc) v ∧ MidC w1.heap.size B wr g0 S gc ∧ wr.ownsRow u.heap.size 3 1 v Q.length (Q.map (Value.int .i64)) ∧ u.heap.size ≤ wr.heap.size ∧ Below w.heap.size w wr) := ⟨H1.out.1.go hB, H1.out.2.1.go hB, H1.out.2.2.1.go hB, H1.out.2.2.2.1.go hB, H1.out.2.2.2.2.1.go (by have := H1.out.2.2.2.2.2.2.1; omega) hB, own_go H1.out.2.2.2.2.2.1 hB, Nat.le_trans H1.out.2.2.2.2.2.2.1 hB.size, H1.out.2.2.2.2.2.2.2.trans (hB.mono H1.out.2.2.2.2.2.2.2.size)⟩
                    by_cases hlk : k < L
                    · obtain ⟨bx, ox, rfl, hxl, hxh, cx, fx⟩ := hMx.at (i := k) (by rw [mx_length, HYV.out.1]; exact hlk)
                      obtain ⟨by_, oy, rfl, hyl, hyh, cy, _⟩ := hMy.at (i := k) (by rw [HXV.out.2.2.2.2]; exact hlk)
                      rw [mx_nth (by rw [HYV.out.1]; exact hlk), if_neg (Nat.lt_irrefl k)] at cx
                      obtain ⟨x0, hx0⟩ : ∃ x0, x0 = nth XL k := ⟨_, rfl⟩
                      obtain ⟨y1, hy1⟩ : ∃ y1, y1 = nth VL k := ⟨_, rfl⟩
                      rw [← hx0] at cx
                      rw [← hy1] at cy
                      have HXY : Hid (nth YV k = tcV g (c == c') x0 y1 ∧ tcE g (c == c') (nth XL k) (nth VL k) = tcE g (c == c') x0 y1 ∧ In64 x0 ∧ In64 y1) := ⟨by rw [hx0, hy1]; exact HYV.out.2.1 k hlk, by rw [hx0, hy1], by rw [hx0]; exact H64.out.1 k, by rw [hy1]; exact H64.out.2.1 k⟩
                      have HMM : Hid (MidC w7.heap.size w8.heap.size wr (some ⟨bx, ox, none⟩) (mx YV XL k) gxc ∧ MidC w10.heap.size w11.heap.size wr (some ⟨by_, oy, none⟩) VL gyc ∧ Below w5.heap.size w5 wr ∧ w11.heap.size ≤ wr.heap.size ∧ ∀ j : Nat, j < k → tcE g (c == c') (nth XL j) (nth VL j) = 0) := ⟨hMx, hMy, hB, hsw, hz⟩
                      have a0 := HST.out.1.c0
                      have b0 := HST.out.2.1.c0
                      clear hMx hMy hB hsw hz hx0 hy1
                      go_wp2_with fail
                      refine anyC_begin (fun w' => w'.cell? ⟨w.heap.size, 0, none⟩ = some (.bool c) ∧ w'.cell? ⟨w.heap.size + 1, 0, none⟩ = some (.bool c') ∧ w'.cell? ⟨bx, ox + k, none⟩ = some (.int .i64 x0) ∧ w'.cell? ⟨by_, oy + k, none⟩ = some (.int .i64 y1)) 19 #[false, false, false, false, false, false, false, false, false, false, false, false, false, false, false, false, false, false, false] (by kernel_rfl) rfl rfl ?_
                      refine anyC_put 0 150 ?rv32 #[true, false, false, false, false, false, false, false, false, false, false, false, false, false, false, false, false, false, false] rfl rfl rfl (by kernel_rfl) (by kernel_rfl) (by kernel_rfl) (fun _ _ _ h => h) ?ry32 (⟨a0, b0, cx, cy⟩) ?rm32
                      case ry32 => first | exact Or.inl ⟨by rfl, by intro w'; go_simp; first | done | rfl⟩
                      case rm32 =>
                      simp only [Act.put, List.setIfInBounds_toArray, List.set_cons_zero, List.set_cons_succ]
                      refine anyC_put 1 151 ?rv33 #[true, true, false, false, false, false, false, false, false, false, false, false, false, false, false, false, false, false, false] rfl rfl rfl (by kernel_rfl) (by kernel_rfl) (by kernel_rfl) (fun _ _ _ h => h) ?ry33 (⟨a0, b0, cx, cy⟩) ?rm33
                      case ry33 => first | exact Or.inl ⟨by rfl, by intro w'; go_simp; first | done | rfl⟩
                      case rm33 =>
                      simp only [Act.put, List.setIfInBounds_toArray, List.set_cons_zero, List.set_cons_succ]
                      refine anyC_take 2 152 ?rv34 #[true, true, true, false, false, false, false, false, false, false, false, false, false, false, false, false, false, false, false] rfl rfl rfl (by kernel_rfl) (by kernel_rfl) (by kernel_rfl) (fun _ _ _ h => h) ?ry34 (⟨a0, b0, cx, cy⟩) ?rm34
                      case ry34 => first | exact Or.inl ⟨by rfl, by intro w' hw'; (try dsimp only at hw'); go_simp; first | done | rfl⟩
                      case rm34 =>
                      simp only [Act.put, List.setIfInBounds_toArray, List.set_cons_zero, List.set_cons_succ]
                      refine anyC_put 3 153 ?rv35 #[true, true, true, true, false, false, false, false, false, false, false, false, false, false, false, false, false, false, false] rfl rfl rfl (by kernel_rfl) (by kernel_rfl) (by kernel_rfl) (fun _ _ _ h => h) ?ry35 (⟨a0, b0, cx, cy⟩) ?rm35
                      case ry35 => first | exact Or.inl ⟨by rfl, by intro w'; go_simp; first | done | rfl⟩
                      case rm35 =>
                      simp only [Act.put, List.setIfInBounds_toArray, List.set_cons_zero, List.set_cons_succ]
                      refine anyC_put 4 154 ?rv36 #[true, true, true, true, true, false, false, false, false, false, false, false, false, false, false, false, false, false, false] rfl rfl rfl (by kernel_rfl) (by kernel_rfl) (by kernel_rfl) (fun _ _ _ h => h) ?ry36 (⟨a0, b0, cx, cy⟩) ?rm36
                      case ry36 => first | exact Or.inl ⟨by rfl, by intro w'; go_simp; first | done | rfl⟩
                      case rm36 =>
                      simp only [Act.put, List.setIfInBounds_toArray, List.set_cons_zero, List.set_cons_succ]
                      refine anyC_put 5 155 ?rv37 #[true, true, true, true, true, true, false, false, false, false, false, false, false, false, false, false, false, false, false] rfl rfl rfl (by kernel_rfl) (by kernel_rfl) (by kernel_rfl) (fun _ _ _ h => h) ?ry37 (⟨a0, b0, cx, cy⟩) ?rm37
                      case ry37 => first | exact Or.inl ⟨by rfl, by intro w'; go_simp; first | done | rfl⟩
                      case rm37 =>
                      simp only [Act.put, List.setIfInBounds_toArray, List.set_cons_zero, List.set_cons_succ]
                      refine anyC_take 6 156 ?rv38 #[true, true, true, true, true, true, true, false, false, false, false, false, false, false, false, false, false, false, false] rfl rfl rfl (by kernel_rfl) (by kernel_rfl) (by kernel_rfl) (fun _ _ _ h => h) ?ry38 (⟨a0, b0, cx, cy⟩) ?rm38
                      case ry38 => first | exact Or.inl ⟨by rfl, by intro w' hw'; (try dsimp only at hw'); go_simp; first | done | rfl⟩
                      case rm38 =>
                      simp only [Act.put, List.setIfInBounds_toArray, List.set_cons_zero, List.set_cons_succ]
                      refine anyC_put 7 157 ?rv39 #[true, true, true, true, true, true, true, true, false, false, false, false, false, false, false, false, false, false, false] rfl rfl rfl (by kernel_rfl) (by kernel_rfl) (by kernel_rfl) (fun _ _ _ h => h) ?ry39 (⟨a0, b0, cx, cy⟩) ?rm39
                      case ry39 => first | exact Or.inl ⟨by rfl, by intro w'; go_simp; first | done | rfl⟩
                      case rm39 =>
                      simp only [Act.put, List.setIfInBounds_toArray, List.set_cons_zero, List.set_cons_succ]
                      refine anyC_take 8 158 ?rv40 #[true, true, true, true, true, true, true, true, true, false, false, false, false, false, false, false, false, false, false] rfl rfl rfl (by kernel_rfl) (by kernel_rfl) (by kernel_rfl) (fun _ _ _ h => h) ?ry40 (⟨a0, b0, cx, cy⟩) ?rm40
                      case ry40 => first | exact Or.inl ⟨by rfl, by intro w' hw'; (try dsimp only at hw'); go_simp; first | done | rfl⟩
                      case rm40 =>
                      simp only [Act.put, List.setIfInBounds_toArray, List.set_cons_zero, List.set_cons_succ]
                      refine anyC_put 9 159 ?rv41 #[true, true, true, true, true, true, true, true, true, true, false, false, false, false, false, false, false, false, false] rfl rfl rfl (by kernel_rfl) (by kernel_rfl) (by kernel_rfl) (fun _ _ _ h => h) ?ry41 (⟨a0, b0, cx, cy⟩) ?rm41
                      case ry41 => first | exact Or.inl ⟨by rfl, by intro w'; go_simp; first | done | rfl⟩
                      case rm41 =>
                      simp only [Act.put, List.setIfInBounds_toArray, List.set_cons_zero, List.set_cons_succ]
                      refine anyC_put 10 160 ?rv42 #[true, true, true, true, true, true, true, true, true, true, true, false, false, false, false, false, false, false, false] rfl rfl rfl (by kernel_rfl) (by kernel_rfl) (by kernel_rfl) (fun _ _ _ h => h) ?ry42 (⟨a0, b0, cx, cy⟩) ?rm42
                      case ry42 => first | exact Or.inl ⟨by rfl, by intro w'; go_simp; first | done | rfl⟩
                      case rm42 =>
                      simp only [Act.put, List.setIfInBounds_toArray, List.set_cons_zero, List.set_cons_succ]
                      refine anyC_put 11 161 ?rv43 #[true, true, true, true, true, true, true, true, true, true, true, true, false, false, false, false, false, false, false] rfl rfl rfl (by kernel_rfl) (by kernel_rfl) (by kernel_rfl) (fun _ _ _ h => h) ?ry43 (⟨a0, b0, cx, cy⟩) ?rm43
                      case ry43 => first | exact Or.inl ⟨by rfl, by intro w'; go_simp; first | done | rfl⟩
                      case rm43 =>
                      simp only [Act.put, List.setIfInBounds_toArray, List.set_cons_zero, List.set_cons_succ]
                      refine anyC_take 12 162 ?rv44 #[true, true, true, true, true, true, true, true, true, true, true, true, true, false, false, false, false, false, false] rfl rfl rfl (by kernel_rfl) (by kernel_rfl) (by kernel_rfl) (fun _ _ _ h => h) ?ry44 (⟨a0, b0, cx, cy⟩) ?rm44
                      case ry44 => first | exact Or.inl ⟨by rfl, by intro w' hw'; (try dsimp only at hw'); go_simp; first | done | rfl⟩
                      case rm44 =>
                      simp only [Act.put, List.setIfInBounds_toArray, List.set_cons_zero, List.set_cons_succ]
                      refine anyC_one 13 #[true, true, true, true, true, true, true, true, true, true, true, true, true, true, false, false, false, false, false] (by kernel_rfl) rfl rfl (fun K hK => ?_)
                      go_simp
                      go_wp2_with (go_at_call 17; refine (twocells_any g c x0 c' y1 HXY.out.2.2.1 HXY.out.2.2.2 _).mono ?_; rintro e yw ⟨rfl, hyw⟩; obtain rfl := hyw.symm; clear hyw)
                      refine hK.out _ _ (⟨a0, b0, cx, cy⟩) ?_
                      clear hK K
                      refine anyC_put 14 149 ?rv46 #[true, true, true, true, true, true, true, true, true, true, true, true, true, true, true, false, false, false, false] rfl rfl rfl (by kernel_rfl) (by kernel_rfl) (by kernel_rfl) (fun _ _ _ h => h) ?ry46 (⟨a0, b0, cx, cy⟩) ?rm46
                      case ry46 => first | exact Or.inl ⟨by rfl, by intro w'; go_simp; first | done | rfl⟩
                      case rm46 =>
                      simp only [Act.put, List.setIfInBounds_toArray, List.set_cons_zero, List.set_cons_succ]
                      refine anyC_put 15 164 ?rv47 #[true, true, true, true, true, true, true, true, true, true, true, true, true, true, true, true, false, false, false] rfl rfl rfl (by kernel_rfl) (by kernel_rfl) (by kernel_rfl) (fun _ _ _ h => h) ?ry47 (⟨a0, b0, cx, cy⟩) ?rm47
                      case ry47 => first | exact Or.inl ⟨by rfl, by intro w'; go_simp; first | done | rfl⟩
                      case rm47 =>
                      simp only [Act.put, List.setIfInBounds_toArray, List.set_cons_zero, List.set_cons_succ]
                      refine anyC_put 16 165 ?rv48 #[true, true, true, true, true, true, true, true, true, true, true, true, true, true, true, true, true, false, false] rfl rfl rfl (by kernel_rfl) (by kernel_rfl) (by kernel_rfl) (fun _ _ _ h => h) ?ry48 (⟨a0, b0, cx, cy⟩) ?rm48
                      case ry48 => first | exact Or.inl ⟨by rfl, by intro w'; go_simp; first | done | rfl⟩
                      case rm48 =>
                      simp only [Act.put, List.setIfInBounds_toArray, List.set_cons_zero, List.set_cons_succ]
                      refine anyC_put 17 21 ?rv49 #[true, true, true, true, true, true, true, true, true, true, true, true, true, true, true, true, true, true, false] rfl rfl rfl (by kernel_rfl) (by kernel_rfl) (by kernel_rfl) (fun _ _ _ h => h) ?ry49 (⟨a0, b0, cx, cy⟩) ?rm49
                      case ry49 => first | exact Or.inl ⟨by rfl, by intro w'; go_simp; first | done | rfl⟩
                      case rm49 =>
                      simp only [Act.put, List.setIfInBounds_toArray, List.set_cons_zero, List.set_cons_succ]
                      refine anyC_put 18 22 ?rv50 #[true, true, true, true, true, true, true, true, true, true, true, true, true, true, true, true, true, true, true] rfl rfl rfl (by kernel_rfl) (by kernel_rfl) (by kernel_rfl) (fun _ _ _ h => h) ?ry50 (⟨a0, b0, cx, cy⟩) ?rm50
                      case ry50 => first | exact Or.inl ⟨by rfl, by intro w'; go_simp; first | done | rfl⟩
                      case rm50 =>
                      simp only [Act.put, List.setIfInBounds_toArray, List.set_cons_zero, List.set_cons_succ]
                      refine anyC_done (by kernel_rfl) ?_
                      obtain ⟨wd, hwd⟩ : ∃ wd, wd = wr.drew := ⟨_, rfl⟩
                      rw [← hwd]
                      have hbd : Below wr.heap.size wr wd := by rw [hwd]; exact (Below.refl _ wr).drew
                      have hfx : wd.frozen? ⟨bx, ox + k, none⟩ = false := by rw [hwd]; exact fx
                      replace cx := cell_to cx hbd
                      have hsd := hbd.size
                      obtain ⟨E, hE⟩ : ∃ E, E = tcE g (c == c') x0 y1 := ⟨_, rfl⟩
                      obtain ⟨Y, hY⟩ : ∃ Y, Y = tcV g (c == c') x0 y1 := ⟨_, rfl⟩
                      have HEY : Hid (nth YV k = Y ∧ tcE g (c == c') (nth XL k) (nth VL k) = E) := ⟨by rw [hY]; exact HXY.out.1, by rw [hE]; exact HXY.out.2.1⟩
                      have HE6 : Hid (E = 0 ∨ E = 6) := by show _ ∨ _; rw [hE]; exact tcE_cell (by have := HF.out.1; omega) _ _ _
                      rw [← hE, ← hY]
                      have HSD2 : Hid (Abx wd w.heap.size (.bool c) (.slice (some ⟨b, off, none⟩) (m + 1) sc) (.slice da dz.length dc) ∧ Abx wd (w.heap.size + 1) (.bool c') (.slice (some ⟨b', off', none⟩) (m' + 1) sc') (.slice da' dz'.length dc') ∧ Abx wd (w.heap.size + 1 + 1) (.bool false) (.slice none 0 0) (.slice none 0 0) ∧ Abx wd B (.bool false) (.slice g0 n gc) v ∧ MidC w1.heap.size B wd g0 S gc ∧ wd.ownsRow u.heap.size 3 1 v Q.length (Q.map (Value.int .i64)) ∧ u.heap.size ≤ wd.heap.size ∧ Below w.heap.size w wd) := ⟨HST.out.1.go hbd, HST.out.2.1.go hbd, HST.out.2.2.1.go hbd, HST.out.2.2.2.1.go hbd, HST.out.2.2.2.2.1.go (by have := HST.out.2.2.2.2.2.2.1; omega) hbd, own_go HST.out.2.2.2.2.2.1 hbd, Nat.le_trans HST.out.2.2.2.2.2.2.1 hbd.size, HST.out.2.2.2.2.2.2.2.trans (hbd.mono HST.out.2.2.2.2.2.2.2.size)⟩
                      have HMD : Hid (MidC w7.heap.size w8.heap.size wd (some ⟨bx, ox, none⟩) (mx YV XL k) gxc ∧ MidC w10.heap.size w11.heap.size wd (some ⟨by_, oy, none⟩) VL gyc ∧ Below w5.heap.size w5 wd ∧ w11.heap.size ≤ wd.heap.size) := ⟨HMM.out.1.go (by have := HMM.out.2.2.2.1; omega) hbd, HMM.out.2.1.go HMM.out.2.2.2.1 hbd, HMM.out.2.2.1.trans (hbd.mono HMM.out.2.2.1.size), Nat.le_trans HMM.out.2.2.2.1 hbd.size⟩
                      clear hE hY hwd fx a0 b0 cy hbd HST
                      by_cases hq : E = 0
                      · have t0' : (E != 0) = false := by simp [hq]
                        have HO : Hid (tcE g (c == c') (nth XL k) (nth VL k) = 0) := by show _ = _; rw [HEY.out.2]; exact hq
                        clear hq
                        go_wp2_with fail
                        refine ⟨⟨k + 1, by omega, by go_num, ?_, ?_, HMD.out.2.1.s1 (p := ⟨bx, ox + k, none⟩) (.inl (by show bx < w10.heap.size; omega)) _, HMD.out.2.2.1.setCell (p := ⟨bx, ox + k, none⟩) (by show w5.heap.size ≤ bx; omega) _, by simp [World.setCell]; exact HMD.out.2.2.2⟩, by simp [intOf]; omega⟩
                        · intro j hj
                          by_cases e : j = k
                          · rw [e]; exact HO.out
                          · exact HMM.out.2.2.2.2 j (by omega)
                        · have := HMD.out.1.put (i := k) (by rw [mx_length, HYV.out.1]; exact hlk) (nth YV k)
                          rw [mx_set (by rw [HYV.out.1]; exact hlk), HEY.out.1] at this
                          exact this
                      · have t0' : (E != 0) = true := by simp [hq]
                        have hsix : E = 6 := HE6.out.resolve_left hq
                        have HE : Hid (inE f g c sz dz c' sz' dz' = 6) := by
                          show _ = _
                          rw [HNE.out, ← HS.out.1, if_neg (not_not_intro HN.out.2.1), if_neg HK.out, if_neg HKN.out, if_neg fun h2 => hq ?_]
                          have h3 := (okT_iff HN.out.2.1).1 h2 t hcr
                          unfold inX at h3
                          by_cases ho : inO g c sz dz c' sz' dz' t = true
                          · rw [← HEY.out.2]; exact HYV.out.2.2.1 ho k hlk
                          · rw [if_neg ho] at h3; exact absurd h3 (by decide)
                        rw [hsix] at t0' ⊢
                        have HRR : Hid (Abx wd (w.heap.size + 1 + 1) (.bool false) (.slice none 0 0) (.slice none 0 0) ∧ Below w.heap.size w wd) := ⟨HSD2.out.2.2.1, HSD2.out.2.2.2.2.2.2.2⟩
                        clear hq hsix
                        have r0 := HRR.out.1.c0
                        have r1 := HRR.out.1.c1
                        have r2 := HRR.out.1.c2
                        have f0 := HRR.out.1.fr 0
                        have f1 := HRR.out.1.fr 1
                        have f2 := HRR.out.1.fr 2
                        go_wp2_with fail
                        have FF := HRR.out.1.set3 (.bool false) (.slice none 0 0) (.slice none 0 0)
                        have z0 := FF.c0
                        have z1 := FF.c1
                        have z2 := FF.c2
                        exact bodyPost_ret (v := .tuple #[.agg #[.bool false, .slice none 0 0, .slice none 0 0], .int .i64 6]) (by simp [results, Tryd.results8, go_sem, z0, z1, z2]) rfl (ur12_no HE.out (by decide) (bel_set3 HRR.out.2 (by omega) _ _ _))
                    · obtain rfl : k = L := by omega
                      have hall : inO g c sz dz c' sz' dz' t = true := HYV.out.2.2.2 hz
                      rw [show mx YV XL k = YV by have := mx_all YV XL; rwa [HYV.out.1] at this] at hMx
                      obtain ⟨E, hE⟩ : ∃ E, E = fdE f YV := ⟨_, rfl⟩
                      obtain ⟨Y, hY⟩ : ∃ Y, Y = fdV f YV := ⟨_, rfl⟩
                      have hfo := folded_any f YV k HYV.out.1 gx gxc hL4 wr (hMx.is (by omega)) H64.out.2.2
                      rw [← hE, ← hY] at hfo
                      have HEY : Hid (fdV f (inL g c sz dz c' sz' dz' t) = Y ∧ inX f g c sz dz c' sz' dz' t = E ∧ (E = 0 ∨ E = 6)) := ⟨by rw [hY, HXV.out.2.2.1], by unfold inX; rw [if_pos hall, hE, HXV.out.2.2.1], by rw [hE]; exact fdE_cases (by have := HF.out.1; omega) _⟩
                      clear hE hY hMx hMy hB hsw hz hall H1
                      go_wp2_with fail
                      refine hfo.mono ?_
                      rintro e w9' ⟨rfl, hw9⟩
                      obtain rfl := hw9.symm
                      clear hw9 hfo
                      by_cases hq : E = 0
                      · have t0' : (E != 0) = false := by simp [hq]
                        have HV : Hid (Y = nth D q) := by show _ = _; rw [HD.out.2.2 q hlq, ← ht]; exact HEY.out.1.symm
                        have HO : Hid (inX f g c sz dz c' sz' dz' (cr S q) = 0) := by show _ = _; rw [← ht, HEY.out.2.1]; exact hq
                        obtain ⟨X, hX⟩ : ∃ X, X = Y := ⟨_, rfl⟩
                        rw [← hX] at HV ⊢
                        have HN9 : Hid ((wr.alloc (.cells #[.int .i64 X] 3)).heap[wr.heap.size]? = some (.cells #[.int .i64 X] 3 (0, 0))) := World.alloc_heap_new _ _
                        have o2 := HST.out.2.2.2.1.c2
                        have o3 := (HST.out.2.2.2.1.al (.cells #[.int .i64 X] 3)).c2
                        have hsW := HST.out.2.2.2.2.2.2.1
                        clear hq hX
                        go_wp2_with (at_builtin; refine app_list rfl _ _ rfl _ u.heap.size wr.heap.size v Q X rfl rfl (HST.out.2.2.2.2.2.1.alloc _) HN9.out (by rw [HQ.out.1]; omega) (by simp; omega) ?_; intro g7 gc7 w7 ho7 hB7; have HO7 : Hid (Abx w7 B (.bool false) (.slice g0 n gc) v) := (HST.out.2.2.2.1.al _).bel hB7 (by omega); have o5 := HO7.out.c2; have of5 := HO7.out.fr 2)
                        have hz7 := hB7.size
                        simp at hz7
                        refine ⟨⟨q + 1, .slice (some ⟨g7, 0, none⟩) (Q.length + 1) gc7, by omega, by go_num, ?_, ((HST.out.1.al _).bel hB7 (by omega)).ot (by show w.heap.size ≠ B; omega) _, ((HST.out.2.1.al _).bel hB7 (by omega)).ot (by show w.heap.size + 1 ≠ B; omega) _, ((HST.out.2.2.1.al _).bel hB7 (by omega)).ot (by show w.heap.size + 1 + 1 ≠ B; omega) _, HO7.out.s2 _, ?_, ?_, by simp [World.setCell]; omega, ?_⟩, by simp [intOf]; omega⟩
                        · intro i hi
                          by_cases e : i = q
                          · rw [e]; exact HO.out
                          · exact HOk.out i (by omega)
                        · exact MidC.s1 ⟨((HST.out.2.2.2.2.1.1.al (by omega) _).bel (hB7.mono (by omega))), HST.out.2.2.2.2.1.2⟩ (p := ⟨B, 2, none⟩) (.inr (Nat.le_refl _)) _
                        · rw [HQ.out.2, ← HV.out, List.length_append, List.length_singleton]
                          exact ownsRow_setCell_below ho7 (by show B < u.heap.size; omega) _
                        · exact ((HST.out.2.2.2.2.2.2.2.alloc HST.out.2.2.2.2.2.2.2.size _).trans (hB7.mono (by omega))).setCell (p := ⟨B, 2, none⟩) (by show w.heap.size ≤ B; omega) _
                      · have t0' : (E != 0) = true := by simp [hq]
                        have hsix : E = 6 := HEY.out.2.2.resolve_left hq
                        have HE : Hid (inE f g c sz dz c' sz' dz' = 6) := by
                          show _ = _
                          rw [HNE.out, ← HS.out.1, if_neg (not_not_intro HN.out.2.1), if_neg HK.out, if_neg HKN.out, if_neg fun h2 => hq ?_]
                          have := (okT_iff HN.out.2.1).1 h2 t hcr
                          rwa [HEY.out.2.1] at this
                        rw [hsix] at t0' ⊢
                        have HRR : Hid (Abx wr (w.heap.size + 1 + 1) (.bool false) (.slice none 0 0) (.slice none 0 0) ∧ Below w.heap.size w wr) := ⟨HST.out.2.2.1, HST.out.2.2.2.2.2.2.2⟩
                        clear hq hsix
                        have r0 := HRR.out.1.c0
                        have r1 := HRR.out.1.c1
                        have r2 := HRR.out.1.c2
                        have f0 := HRR.out.1.fr 0
                        have f1 := HRR.out.1.fr 1
                        have f2 := HRR.out.1.fr 2
                        go_wp2_with fail
                        have FF := HRR.out.1.set3 (.bool false) (.slice none 0 0) (.slice none 0 0)
                        have z0 := FF.c0
                        have z1 := FF.c1
                        have z2 := FF.c2
                        exact bodyPost_ret (v := .tuple #[.agg #[.bool false, .slice none 0 0, .slice none 0 0], .int .i64 6]) (by simp [results, Tryd.results8, go_sem, z0, z1, z2]) rfl (ur12_no HE.out (by decide) (bel_set3 HRR.out.2 (by omega) _ _ _))
                · obtain rfl : q = N := by omega
                  have HX : Hid (inE f g c sz dz c' sz' dz' = 0) := by
                    show _ = _
                    rw [HNE.out, ← HS.out.1, if_neg (not_not_intro HN.out.2.1), if_neg HK.out, if_neg HKN.out, if_pos ((okT_iff HN.out.2.1).2 fun t ht => ?_)]
                    have hc := cr_place HN.out.2.1 ht
                    have := hok (place S t).toNat (by rw [← HN.out.1] at hc; simpa using hc.2)
                    rwa [hc.1] at this
                  have htt : D.take q = D := List.take_of_length_le (by rw [HD.out.2.1]; exact Nat.le_refl _)
                  rw [htt] at hst
                  obtain ⟨hA, hA', hR, hO, hM, hown, hsz, hB⟩ := hst
                  obtain ⟨g1, gc1, rfl, hN1⟩ := own_cap hown
                  have HQ : Hid (Abx wr (w.heap.size + 1 + 1) (.bool false) (.slice none 0 0) (.slice none 0 0) ∧ NewC u.heap.size wr g1 D gc1 ∧ MidC w1.heap.size B wr g0 S gc ∧ u.heap.size ≤ wr.heap.size ∧ Below w.heap.size w wr) := ⟨hR, hN1, hM, hsz, hB⟩
                  have o0 := hO.c0
                  have o1 := hO.c1
                  have o2 := hO.c2
                  have r0 := hR.c0
                  have r1 := hR.c1
                  have r2 := hR.c2
                  have f0 := hR.fr 0
                  have f1 := hR.fr 1
                  have f2 := hR.fr 2
                  clear hown htt hA hA' hR hO hM hok hsz hB hN1
                  go_wp2_with fail
                  have FF := HQ.out.1.set3 (.bool false) (.slice g0 n gc) (.slice g1 D.length gc1)
                  have q0 := FF.c0
                  have q1 := FF.c1
                  have q2 := FF.c2
                  refine bodyPost_ret (v := .tuple #[.agg #[.bool false, .slice g0 n gc, .slice g1 D.length gc1], .int .i64 0]) (by simp [results, Tryd.results8, go_sem, q0, q1, q2]) rfl ?_
                  have hX := ((HQ.out.2.2.1.1.new (by have := HQ.out.2.2.2.1; omega)).set3 (b := w.heap.size + 1 + 1) (by omega) (.bool false) (.slice g0 n gc) (.slice g1 D.length gc1)).low (lo' := w.heap.size) (by omega)
                  have hY := (HQ.out.2.1.1.set3 (b := w.heap.size + 1 + 1) (by omega) (.bool false) (.slice g0 n gc) (.slice g1 D.length gc1)).low (lo' := w.heap.size) (by omega)
                  have hU := ur12_ok (e := inE f g c sz dz c' sz' dz') (w := w) HX.out (S := S) (D := D) (xc := gc) (yc := gc1) HS.out.2.1 rfl hX hY (bel_set3 HQ.out.2.2.2.2 (b := w.heap.size + 1 + 1) (by omega) (.bool false) (.slice g0 n gc) (.slice g1 D.length gc1))
                  rw [← HS.out.1, ← HD.out.1]
                  exact hU
            · have HE : Hid (inE f g c sz dz c' sz' dz' = NE) := by
                show _ = _
                have h := of_decide_eq_true HBN.out.symm
                rw [HNE.out, ← HS.out.1, if_neg (not_not_intro HN.out.2.1), if_neg HK.out, if_pos ⟨by rw [← HLN.out.2.2.1]; omega, by rw [← HNe.out]; exact h.2⟩]
                exact HNe.out.symm
              have HNz : Hid (NE ≠ 0) := (of_decide_eq_true HBN.out.symm).2
              clear HBN HNe
              have r0 := Rr2.out.c0
              have r1 := Rr2.out.c1
              have r2 := Rr2.out.c2
              have f0 := Rr2.out.fr 0
              have f1 := Rr2.out.fr 1
              have f2 := Rr2.out.fr 2
              go_wp2_with fail
              have FF := Rr2.out.set3 (.bool false) (.slice none 0 0) (.slice none 0 0)
              have z0 := FF.c0
              have z1 := FF.c1
              have z2 := FF.c2
              exact bodyPost_ret (v := .tuple #[.agg #[.bool false, .slice none 0 0, .slice none 0 0], .int .i64 NE]) (by simp [results, Tryd.results8, go_sem, z0, z1, z2]) rfl (ur12_no HE.out HNz.out (bel_set3 HB2.out (by omega) _ _ _))
        · have HE : Hid (inE f g c sz dz c' sz' dz' = 6) := by
            show _ = _
            rw [HNE.out, ← HS.out.1, if_neg (not_not_intro HN.out.2.1), if_pos (of_decide_eq_true HBC.out.symm)]
          clear HBC
          have r0 := Rr2.out.c0
          have r1 := Rr2.out.c1
          have r2 := Rr2.out.c2
          have f0 := Rr2.out.fr 0
          have f1 := Rr2.out.fr 1
          have f2 := Rr2.out.fr 2
          go_wp2_with fail
          have FF := Rr2.out.set3 (.bool false) (.slice none 0 0) (.slice none 0 0)
          have z0 := FF.c0
          have z1 := FF.c1
          have z2 := FF.c2
          exact bodyPost_ret (v := .tuple #[.agg #[.bool false, .slice none 0 0, .slice none 0 0], .int .i64 6]) (by simp [results, Tryd.results8, go_sem, z0, z1, z2]) rfl (ur12_no HE.out (by decide) (bel_set3 HB2.out (by omega) _ _ _))
    · have HE : Hid (inE f g c sz dz c' sz' dz' = errOf S) := by show _ = _; rw [HNE.out, ← HS.out.1, if_pos he]
      have HNz : Hid (errOf S ≠ 0) := he
      have t0 : (errOf S != 0) = true := by simp [he]
      clear he
      have r0 := Rr2.out.c0
      have r1 := Rr2.out.c1
      have r2 := Rr2.out.c2
      have f0 := Rr2.out.fr 0
      have f1 := Rr2.out.fr 1
      have f2 := Rr2.out.fr 2
      go_wp2_with fail
      have FF := Rr2.out.set3 (.bool false) (.slice none 0 0) (.slice none 0 0)
      have z0 := FF.c0
      have z1 := FF.c1
      have z2 := FF.c2
      exact bodyPost_ret (v := .tuple #[.agg #[.bool false, .slice none 0 0, .slice none 0 0], .int .i64 (errOf S)]) (by simp [results, Tryd.results8, go_sem, z0, z1, z2]) rfl (ur12_no HE.out HNz.out (bel_set3 HB2.out (by omega) _ _ _))
  · have tn : ((L : Int) != y0) = true := by simpa using hlen
    have HE : Hid (inE f g c sz dz c' sz' dz' = 4) := by show _ = _; unfold inE; rw [if_neg HF.out.1, if_neg (not_not_intro HF.out.2.1), if_neg (by rw [HLN.out.1, HLN.out.2.1]; omega), if_pos (by rw [← HLN.out.2.2.1, ← HLN.out.2.2.2.1]; exact hlen)]
    clear hlen
    have r0 := Rr1.out.c0
    have r1 := Rr1.out.c1
    have r2 := Rr1.out.c2
    have f0 := Rr1.out.fr 0
    have f1 := Rr1.out.fr 1
    have f2 := Rr1.out.fr 2
    go_wp2_with fail
    have FF := Rr1.out.set3 (.bool false) (.slice none 0 0) (.slice none 0 0)
    have z0 := FF.c0
    have z1 := FF.c1
    have z2 := FF.c2
    exact bodyPost_ret (v := .tuple #[.agg #[.bool false, .slice none 0 0, .slice none 0 0], .int .i64 4]) (by simp [results, Tryd.results8, go_sem, z0, z1, z2]) rfl (ur12_no HE.out (by decide) (bel_set3 HB1.out (by omega) _ _ _))
theorem innered_any (f g : Int) (c c' : Bool) (sa : Option Addr) (sc : Nat) (sz : List Int) (da : Option Addr) (dc : Nat) (dz : List Int) (sa' : Option Addr) (sc' : Nat) (sz' : List Int) (da' : Option Addr) (dc' : Nat) (dz' : List Int) (h1 : sz.length ≤ 9223372036854775807) (h2 : dz.length ≤ 9223372036854775807) (h1' : sz'.length ≤ 9223372036854775807) (h2' : dz'.length ≤ 9223372036854775807) (w : World) (hs : IsC w.heap.size w sa sz sc) (hd : IsInts w.heap.size w da dz) (hs' : IsC w.heap.size w sa' sz' sc') (hd' : IsInts w.heap.size w da' dz') (T : ∀ j, In64 (nth dz j)) (T' : ∀ j, In64 (nth dz' j)) :
    Calls Tryd.prog 8 #[.int .i64 f, .int .i64 g, .agg #[.bool c, .slice sa sz.length sc, .slice da dz.length dc], .agg #[.bool c', .slice sa' sz'.length sc', .slice da' dz'.length dc']] w (UR (inE f g c sz dz c' sz' dz') false (niS13 f g c sz dz c' sz' dz') (niD13 f g c sz dz c' sz' dz') w) := by
  by_cases hf : (f < 1 ∨ 16 < f) ∨ g < 1 ∨ 16 < g
  · exact innered_f f g c c' sa sc sz da dc dz sa' sc' sz' da' dc' dz' h1 h2 h1' h2' w hs.1 hs.2 hd hs'.1 hs'.2 hd' T T' hf
  · by_cases hw : flawsE c sz dz c' sz' dz' = 0
    · by_cases hr : sz.length = 0 ∨ sz'.length = 0
      · exact innered_r f g c c' sa sc sz da dc dz sa' sc' sz' da' dc' dz' h1 h2 h1' h2' w hs.1 hs.2 hd hs'.1 hs'.2 hd' T T' hf hw hr
      · have h := innered_main f g c c' sa sc sz da dc dz sa' sc' sz' da' dc' dz' h1 h2 h1' h2' w hs.1 hs.2 hd hs'.1 hs'.2 hd' T T' hf hw (sz.length - 1) (sz'.length - 1) (by omega) (by omega)
        rwa [show sz.length - 1 + 1 = sz.length by omega, show sz'.length - 1 + 1 = sz'.length by omega] at h
    · exact innered_w f g c c' sa sc sz da dc dz sa' sc' sz' da' dc' dz' h1 h2 h1' h2' w hs.1 hs.2 hd hs'.1 hs'.2 hd' T T' hf hw
end Go.Proofs.YtcpmendkocnlhaaDoor
