/-
  What the reference makes of the cells at one place.
-/
import Derived.Deep.QuietTactic
import Derived.BigQuiet
import Derived.Deep.DeepCutAuto
import Derived.Test.YtmbgomljofngnaaDoorFlaws
import Derived.Test.YtmbgomljofngnaaDoorShaped
import Derived.Test.YtmbgomljofngnaaDoorRtwo
import Derived.Test.YtmbgomljofngnaaDoorEachm
namespace Go.Proofs.YtmbgomljofngnaaDoor
open Go.RowKit
set_option linter.unusedVariables false

set_option maxHeartbeats 1000000 in
theorem compares_any (f : Int) (w : World) : Calls Tryd.prog 9 #[.int .i64 f] w fun e w' => e = .returned (.bool (decide (f = 8 ∨ f = 9))) ∧ w' = w := by
  by_cases h8 : f = 8
  · subst h8
    go_enter Tryd.func9, Tryd.ntmps9
    go_wp2_with fail
    go_ret
    exact ⟨rfl, rfl⟩
  · have t8 : (f == 8) = false := by rw [beq_eq_false_iff_ne]; exact h8
    have HD : Hid ((f == 9) = decide (f = 8 ∨ f = 9)) := by
      show _ = _
      by_cases h9 : f = 9
      · subst h9; rfl
      · rw [decide_eq_false (by omega)]; exact beq_eq_false_iff_ne.2 h9
    clear h8
    go_enter Tryd.func9, Tryd.ntmps9
    go_wp2_with fail
    go_ret
    exact ⟨ret_bool HD.out, rfl⟩
set_option maxHeartbeats 1000000 in
theorem twocells_any (f : Int) (c : Bool) (a : Int) (c' : Bool) (b : Int) (ha : In64 a) (hb : In64 b) (w : World) :
    Calls Tryd.prog 11 #[.int .i64 f, .bool c, .int .i64 a, .bool c', .int .i64 b] w fun e w' => e = .returned (.tuple #[.int .i64 (tcV f (c == c') a b), .int .i64 (tcE f (c == c') a b)]) ∧ w' = w := by
  by_cases h : c = c'
  · have te : (c == c') = true := by simpa using h
    have HV : Hid (tcV f (c == c') a b = twoV f a b ∧ tcE f (c == c') a b = twoE f a b) := by rw [te]; exact ⟨rfl, rfl⟩
    clear h
    go_enter Tryd.func11, Tryd.ntmps11
    go_wp2_with fail
    refine (rtwo_any f a b ha hb w).mono ?_
    rintro e w1 ⟨rfl, hw⟩
    subst hw
    go_wp2_with fail
    go_ret2
    exact ⟨ret2i HV.out.1.symm HV.out.2.symm, rfl⟩
  · have te : (c == c') = false := by simpa using h
    have HV : Hid (tcV f (c == c') a b = ifV (f == 9) ∧ tcE f (c == c') a b = 0) := by
      rw [te]
      exact ⟨rfl, rfl⟩
    clear h
    go_enter Tryd.func11, Tryd.ntmps11
    go_wp2_with fail
    refine (truth_any (f == 9) w).mono ?_
    rintro e w1 ⟨rfl, hw⟩
    subst hw
    go_wp2_with fail
    go_ret2
    exact ⟨ret2i HV.out.1.symm HV.out.2.symm, rfl⟩
/-- What EachTwo tells. -/
def R2P (f : Int) (c : Bool) (sz dz : List Int) (c' : Bool) (sz' dz' : List Int) (w : World) (e : Ending) (w' : World) : Prop :=
  (e2E f c sz dz c' sz' dz' ≠ 0 ∧ e = .returned (.tuple #[.agg #[.bool false, .slice none 0 0, .slice none 0 0], .int .i64 (e2E f c sz dz c' sz' dz')]) ∧ Below w.heap.size w w') ∨
  (e2E f c sz dz c' sz' dz' = 0 ∧ ∃ xa xc ya yc, e = .returned (.tuple #[.agg #[.bool false, .slice xa (shp sz sz').length xc, .slice ya (e2V f c sz dz c' sz' dz').length yc], .int .i64 0]) ∧ NewInts w.heap.size w' xa (shp sz sz') ∧ NewInts w.heap.size w' ya (e2V f c sz dz c' sz' dz') ∧ Below w.heap.size w w')
theorem R2P.no {f : Int} {c : Bool} {sz dz : List Int} {c' : Bool} {sz' dz' : List Int} {w w' : World} {e : Int} (h : e2E f c sz dz c' sz' dz' = e) (h0 : e ≠ 0) (hB : Below w.heap.size w w') : R2P f c sz dz c' sz' dz' w (.returned (.tuple #[.agg #[.bool false, .slice none 0 0, .slice none 0 0], .int .i64 e])) w' := by
  subst h; exact .inl ⟨h0, rfl, hB⟩
section
variable {f : Int} {c : Bool} {sz dz : List Int} {c' : Bool} {sz' dz' : List Int}
theorem e2E_fn (h : f < 1 ∨ 16 < f) : e2E f c sz dz c' sz' dz' = 1 := by
  have : e2F f c sz dz c' sz' dz' = 1 := by unfold e2F; rw [if_pos h]
  unfold e2E; rw [this]; rfl
theorem e2E_flaw (h : ¬ (f < 1 ∨ 16 < f)) (h2 : flawsE c sz dz c' sz' dz' ≠ 0) : e2E f c sz dz c' sz' dz' = flawsE c sz dz c' sz' dz' := by
  have : e2F f c sz dz c' sz' dz' = flawsE c sz dz c' sz' dz' := by unfold e2F; rw [if_neg h, if_pos h2]
  unfold e2E; rw [this, if_pos h2]
theorem e2E_rank (h : ¬ (f < 1 ∨ 16 < f)) (h2 : flawsE c sz dz c' sz' dz' = 0) (h3 : sz.length ≠ 0 ∧ sz'.length ≠ 0 ∧ sz.length ≠ sz'.length) : e2E f c sz dz c' sz' dz' = 3 := by
  have : e2F f c sz dz c' sz' dz' = 3 := by unfold e2F; rw [if_neg h, if_neg (by simpa using h2), if_pos h3]
  unfold e2E; rw [this]; rfl
theorem e2E_len (h : ¬ (f < 1 ∨ 16 < f)) (h2 : flawsE c sz dz c' sz' dz' = 0) (h3 : sz.length = sz'.length) (h4 : sz.length ≠ 0 ∧ sz ≠ sz') : e2E f c sz dz c' sz' dz' = 4 := by
  have : e2F f c sz dz c' sz' dz' = 4 := by unfold e2F; rw [if_neg h, if_neg (by simpa using h2), if_neg (fun x => x.2.2 h3), if_pos ⟨h4.1, h3 ▸ h4.1, h4.2⟩]
  unfold e2E; rw [this]; rfl
theorem e2E_char (h : ¬ (f < 1 ∨ 16 < f)) (h2 : flawsE c sz dz c' sz' dz' = 0) (h3 : sz.length = 0 ∨ sz'.length = 0 ∨ sz = sz') (h4 : (c = true ∨ c' = true) ∧ f ≠ 8 ∧ f ≠ 9) : e2E f c sz dz c' sz' dz' = 6 := by
  have : e2F f c sz dz c' sz' dz' = 6 := by
    unfold e2F
    rw [if_neg h, if_neg (by simpa using h2), if_neg, if_neg, if_pos h4]
    · rintro ⟨a, b, d⟩; rcases h3 with e | e | e
      · exact a e
      · exact b e
      · exact d e
    · rintro ⟨a, b, d⟩; rcases h3 with e | e | e
      · exact a e
      · exact b e
      · exact d (by rw [e])
  unfold e2E; rw [this]; rfl
theorem e2E_cell (h : e2F f c sz dz c' sz' dz' = 0) {i : Nat} (hi : i < e2N sz sz') (hx : tcE f (c == c') (e2C dz i) (e2C dz' i) ≠ 0) : e2E f c sz dz c' sz' dz' = 6 ∧ tcE f (c == c') (e2C dz i) (e2C dz' i) = 6 := by
  refine ⟨?_, (tcE_cell (e2F_zero.1 h).1 _ _ _).resolve_left hx⟩
  unfold e2E
  rw [h, if_neg (by decide), if_neg]
  intro ho
  unfold e2O at ho
  have := List.all_eq_true.1 ho i (List.mem_range.2 hi)
  exact hx (by simpa using this)
theorem e2E_ok (h : e2F f c sz dz c' sz' dz' = 0) (ha : ∀ i, i < e2N sz sz' → tcE f (c == c') (e2C dz i) (e2C dz' i) = 0) : e2E f c sz dz c' sz' dz' = 0 := by
  unfold e2E
  rw [h, if_neg (by decide), if_pos]
  unfold e2O
  rw [List.all_eq_true]
  intro i hi
  rw [ha i (List.mem_range.1 hi)]; rfl
end
set_option maxRecDepth 100000 in
set_option maxHeartbeats 8000000 in
theorem reach2_lo (f : Int) (c : Bool) (sa : Option Addr) (sc : Nat) (sz : List Int) (da : Option Addr) (dc : Nat) (dz : List Int) (c' : Bool) (sa' : Option Addr) (sc' : Nat) (sz' : List Int) (da' : Option Addr) (dc' : Nat) (dz' : List Int)
    (h1 : sz.length ≤ 9223372036854775807) (h2 : dz.length ≤ 9223372036854775807) (h1' : sz'.length ≤ 9223372036854775807) (h2' : dz'.length ≤ 9223372036854775807) (w : World) (hs : IsInts w.heap.size w sa sz) (hd : IsInts w.heap.size w da dz) (hs' : IsInts w.heap.size w sa' sz') (hd' : IsInts w.heap.size w da' dz') (h : f < 1) :
    Calls Tryd.prog 4 #[.int .i64 f, .agg #[.bool c, .slice sa sz.length sc, .slice da dz.length dc], .agg #[.bool c', .slice sa' sz'.length sc', .slice da' dz'.length dc']] w fun e w' => R2P f c sz dz c' sz' dz' w e w' := by
  have HI : Hid ((IsInts w.heap.size w sa sz ∧ IsInts w.heap.size w da dz) ∧ (IsInts w.heap.size w sa' sz' ∧ IsInts w.heap.size w da' dz')) := ⟨⟨hs, hd⟩, hs', hd'⟩
  clear hs hd hs' hd'
  have hb : Hid (Below w.heap.size w (((w.alloc (.cells #[.bool c, .slice sa sz.length sc, .slice da dz.length dc] 25)).alloc (.cells #[.bool c', .slice sa' sz'.length sc', .slice da' dz'.length dc'] 25)).alloc (.cells #[.bool false, .slice none 0 0, .slice none 0 0] 25))) := (((Below.refl _ w).alloc (Nat.le_refl _) _).alloc (by simp) _).alloc (by simp; omega) _
  have pa := ((Abx.new w (.bool c) (.slice sa sz.length sc) (.slice da dz.length dc)).al (.cells #[.bool c', .slice sa' sz'.length sc', .slice da' dz'.length dc'] 25)).al (.cells #[.bool false, .slice none 0 0, .slice none 0 0] 25)
  have pa_0 := pa.c0
  have pa_1 := pa.c1
  have pa_2 := pa.c2
  have pb := (Abx.new1 w (.cells #[.bool c, .slice sa sz.length sc, .slice da dz.length dc] 25) (.bool c') (.slice sa' sz'.length sc') (.slice da' dz'.length dc')).al (.cells #[.bool false, .slice none 0 0, .slice none 0 0] 25)
  have pb_0 := pb.c0
  have pb_1 := pb.c1
  have pb_2 := pb.c2
  have pr : Abx (((w.alloc (.cells #[.bool c, .slice sa sz.length sc, .slice da dz.length dc] 25)).alloc (.cells #[.bool c', .slice sa' sz'.length sc', .slice da' dz'.length dc'] 25)).alloc (.cells #[.bool false, .slice none 0 0, .slice none 0 0] 25)) (w.heap.size + 1 + 1) (.bool false) (.slice none 0 0) (.slice none 0 0) := by
    have := Abx.new1 (w.alloc (.cells #[.bool c, .slice sa sz.length sc, .slice da dz.length dc] 25)) (.cells #[.bool c', .slice sa' sz'.length sc', .slice da' dz'.length dc'] 25) (.bool false) (.slice none 0 0) (.slice none 0 0)
    rwa [World.size_alloc] at this
  have HE : Hid (e2E f c sz dz c' sz' dz' = 1) := e2E_fn (.inl h)
  go_enter Tryd.func4, Tryd.ntmps4
  go_wp2_with fail
  exact bodyPost_ret (v := .tuple #[.agg #[.bool false, .slice none 0 0, .slice none 0 0], .int .i64 (1)]) (by simp [results, Tryd.results4, go_sem]) rfl (R2P.no HE.out (by decide) hb.out)
set_option maxRecDepth 100000 in
set_option maxHeartbeats 8000000 in
theorem reach2_hi (f : Int) (c : Bool) (sa : Option Addr) (sc : Nat) (sz : List Int) (da : Option Addr) (dc : Nat) (dz : List Int) (c' : Bool) (sa' : Option Addr) (sc' : Nat) (sz' : List Int) (da' : Option Addr) (dc' : Nat) (dz' : List Int)
    (h1 : sz.length ≤ 9223372036854775807) (h2 : dz.length ≤ 9223372036854775807) (h1' : sz'.length ≤ 9223372036854775807) (h2' : dz'.length ≤ 9223372036854775807) (w : World) (hs : IsInts w.heap.size w sa sz) (hd : IsInts w.heap.size w da dz) (hs' : IsInts w.heap.size w sa' sz') (hd' : IsInts w.heap.size w da' dz') (h : 16 < f) :
    Calls Tryd.prog 4 #[.int .i64 f, .agg #[.bool c, .slice sa sz.length sc, .slice da dz.length dc], .agg #[.bool c', .slice sa' sz'.length sc', .slice da' dz'.length dc']] w fun e w' => R2P f c sz dz c' sz' dz' w e w' := by
  have HI : Hid ((IsInts w.heap.size w sa sz ∧ IsInts w.heap.size w da dz) ∧ (IsInts w.heap.size w sa' sz' ∧ IsInts w.heap.size w da' dz')) := ⟨⟨hs, hd⟩, hs', hd'⟩
  clear hs hd hs' hd'
  have hb : Hid (Below w.heap.size w (((w.alloc (.cells #[.bool c, .slice sa sz.length sc, .slice da dz.length dc] 25)).alloc (.cells #[.bool c', .slice sa' sz'.length sc', .slice da' dz'.length dc'] 25)).alloc (.cells #[.bool false, .slice none 0 0, .slice none 0 0] 25))) := (((Below.refl _ w).alloc (Nat.le_refl _) _).alloc (by simp) _).alloc (by simp; omega) _
  have pa := ((Abx.new w (.bool c) (.slice sa sz.length sc) (.slice da dz.length dc)).al (.cells #[.bool c', .slice sa' sz'.length sc', .slice da' dz'.length dc'] 25)).al (.cells #[.bool false, .slice none 0 0, .slice none 0 0] 25)
  have pa_0 := pa.c0
  have pa_1 := pa.c1
  have pa_2 := pa.c2
  have pb := (Abx.new1 w (.cells #[.bool c, .slice sa sz.length sc, .slice da dz.length dc] 25) (.bool c') (.slice sa' sz'.length sc') (.slice da' dz'.length dc')).al (.cells #[.bool false, .slice none 0 0, .slice none 0 0] 25)
  have pb_0 := pb.c0
  have pb_1 := pb.c1
  have pb_2 := pb.c2
  have pr : Abx (((w.alloc (.cells #[.bool c, .slice sa sz.length sc, .slice da dz.length dc] 25)).alloc (.cells #[.bool c', .slice sa' sz'.length sc', .slice da' dz'.length dc'] 25)).alloc (.cells #[.bool false, .slice none 0 0, .slice none 0 0] 25)) (w.heap.size + 1 + 1) (.bool false) (.slice none 0 0) (.slice none 0 0) := by
    have := Abx.new1 (w.alloc (.cells #[.bool c, .slice sa sz.length sc, .slice da dz.length dc] 25)) (.cells #[.bool c', .slice sa' sz'.length sc', .slice da' dz'.length dc'] 25) (.bool false) (.slice none 0 0) (.slice none 0 0)
    rwa [World.size_alloc] at this
  have hlo : ¬ f < 1 := by omega
  have HE : Hid (e2E f c sz dz c' sz' dz' = 1) := e2E_fn (.inr h)
  go_enter Tryd.func4, Tryd.ntmps4
  go_wp2_with fail
  exact bodyPost_ret (v := .tuple #[.agg #[.bool false, .slice none 0 0, .slice none 0 0], .int .i64 (1)]) (by simp [results, Tryd.results4, go_sem]) rfl (R2P.no HE.out (by decide) hb.out)
set_option maxRecDepth 100000 in
set_option maxHeartbeats 8000000 in
theorem reach2_flaw (f : Int) (c : Bool) (sa : Option Addr) (sc : Nat) (sz : List Int) (da : Option Addr) (dc : Nat) (dz : List Int) (c' : Bool) (sa' : Option Addr) (sc' : Nat) (sz' : List Int) (da' : Option Addr) (dc' : Nat) (dz' : List Int)
    (h1 : sz.length ≤ 9223372036854775807) (h2 : dz.length ≤ 9223372036854775807) (h1' : sz'.length ≤ 9223372036854775807) (h2' : dz'.length ≤ 9223372036854775807) (w : World) (hs : IsInts w.heap.size w sa sz) (hd : IsInts w.heap.size w da dz) (hs' : IsInts w.heap.size w sa' sz') (hd' : IsInts w.heap.size w da' dz') (hlo : ¬ f < 1) (hhi : ¬ 16 < f) (G : Hid (flawsE c sz dz c' sz' dz' ≠ 0)) :
    Calls Tryd.prog 4 #[.int .i64 f, .agg #[.bool c, .slice sa sz.length sc, .slice da dz.length dc], .agg #[.bool c', .slice sa' sz'.length sc', .slice da' dz'.length dc']] w fun e w' => R2P f c sz dz c' sz' dz' w e w' := by
  have HI : Hid ((IsInts w.heap.size w sa sz ∧ IsInts w.heap.size w da dz) ∧ (IsInts w.heap.size w sa' sz' ∧ IsInts w.heap.size w da' dz')) := ⟨⟨hs, hd⟩, hs', hd'⟩
  clear hs hd hs' hd'
  have hb : Hid (Below w.heap.size w (((w.alloc (.cells #[.bool c, .slice sa sz.length sc, .slice da dz.length dc] 25)).alloc (.cells #[.bool c', .slice sa' sz'.length sc', .slice da' dz'.length dc'] 25)).alloc (.cells #[.bool false, .slice none 0 0, .slice none 0 0] 25))) := (((Below.refl _ w).alloc (Nat.le_refl _) _).alloc (by simp) _).alloc (by simp; omega) _
  have pa := ((Abx.new w (.bool c) (.slice sa sz.length sc) (.slice da dz.length dc)).al (.cells #[.bool c', .slice sa' sz'.length sc', .slice da' dz'.length dc'] 25)).al (.cells #[.bool false, .slice none 0 0, .slice none 0 0] 25)
  have pa_0 := pa.c0
  have pa_1 := pa.c1
  have pa_2 := pa.c2
  have pb := (Abx.new1 w (.cells #[.bool c, .slice sa sz.length sc, .slice da dz.length dc] 25) (.bool c') (.slice sa' sz'.length sc') (.slice da' dz'.length dc')).al (.cells #[.bool false, .slice none 0 0, .slice none 0 0] 25)
  have pb_0 := pb.c0
  have pb_1 := pb.c1
  have pb_2 := pb.c2
  have pr : Abx (((w.alloc (.cells #[.bool c, .slice sa sz.length sc, .slice da dz.length dc] 25)).alloc (.cells #[.bool c', .slice sa' sz'.length sc', .slice da' dz'.length dc'] 25)).alloc (.cells #[.bool false, .slice none 0 0, .slice none 0 0] 25)) (w.heap.size + 1 + 1) (.bool false) (.slice none 0 0) (.slice none 0 0) := by
    have := Abx.new1 (w.alloc (.cells #[.bool c, .slice sa sz.length sc, .slice da dz.length dc] 25)) (.cells #[.bool c', .slice sa' sz'.length sc', .slice da' dz'.length dc'] 25) (.bool false) (.slice none 0 0) (.slice none 0 0)
    rwa [World.size_alloc] at this
  go_enter Tryd.func4, Tryd.ntmps4
  go_wp2_with fail
  refine (flaws_any c c' sa sc sz da dc dz sa' sc' sz' da' dc' dz' h1 h2 h1' h2' _ ((HI.out.1.1.below hb.out).mono hb.out.size) ((HI.out.1.2.below hb.out).mono hb.out.size) ((HI.out.2.1.below hb.out).mono hb.out.size) ((HI.out.2.2.below hb.out).mono hb.out.size)).mono ?_
  rintro e v1 ⟨rfl, hB⟩
  replace hb : Hid (Below w.heap.size w v1) := hb.out.trans (hB.mono hb.out.size)
  replace pa := pa.go hB
  replace pb := pb.go hB
  replace pr := pr.go hB
  replace pa_0 := pa.c0
  replace pa_1 := pa.c1
  replace pa_2 := pa.c2
  replace pb_0 := pb.c0
  replace pb_1 := pb.c1
  replace pb_2 := pb.c2
  clear hB
  have te : (flawsE c sz dz c' sz' dz' != 0) = true := by simpa using G.out
  have r_0 := pr.c0
  have r_1 := pr.c1
  have r_2 := pr.c2
  have f_0 := pr.fr 0
  have f_1 := pr.fr 1
  have f_2 := pr.fr 2
  go_wp2_with fail
  have FF := pr.set3 (.bool false) (.slice none 0 0) (.slice none 0 0)
  have q0 := FF.c0
  have q1 := FF.c1
  have q2 := FF.c2
  exact bodyPost_ret (v := .tuple #[.agg #[.bool false, .slice none 0 0, .slice none 0 0], .int .i64 (flawsE c sz dz c' sz' dz')]) (by simp [results, Tryd.results4, go_sem, q0, q1, q2]) rfl (R2P.no (e2E_flaw (by omega) G.out) G.out (bel_set3 hb.out (by omega) _ _ _))
set_option maxRecDepth 100000 in
set_option maxHeartbeats 8000000 in
theorem reach2_rank (f : Int) (c : Bool) (sa : Option Addr) (sc : Nat) (sz : List Int) (da : Option Addr) (dc : Nat) (dz : List Int) (c' : Bool) (sa' : Option Addr) (sc' : Nat) (sz' : List Int) (da' : Option Addr) (dc' : Nat) (dz' : List Int)
    (h1 : sz.length ≤ 9223372036854775807) (h2 : dz.length ≤ 9223372036854775807) (h1' : sz'.length ≤ 9223372036854775807) (h2' : dz'.length ≤ 9223372036854775807) (w : World) (hs : IsInts w.heap.size w sa sz) (hd : IsInts w.heap.size w da dz) (hs' : IsInts w.heap.size w sa' sz') (hd' : IsInts w.heap.size w da' dz') (hlo : ¬ f < 1) (hhi : ¬ 16 < f) (G : Hid (flawsE c sz dz c' sz' dz' = 0)) (R : Hid (sz.length ≠ 0 ∧ sz'.length ≠ 0 ∧ sz.length ≠ sz'.length)) :
    Calls Tryd.prog 4 #[.int .i64 f, .agg #[.bool c, .slice sa sz.length sc, .slice da dz.length dc], .agg #[.bool c', .slice sa' sz'.length sc', .slice da' dz'.length dc']] w fun e w' => R2P f c sz dz c' sz' dz' w e w' := by
  have HI : Hid ((IsInts w.heap.size w sa sz ∧ IsInts w.heap.size w da dz) ∧ (IsInts w.heap.size w sa' sz' ∧ IsInts w.heap.size w da' dz')) := ⟨⟨hs, hd⟩, hs', hd'⟩
  clear hs hd hs' hd'
  have hb : Hid (Below w.heap.size w (((w.alloc (.cells #[.bool c, .slice sa sz.length sc, .slice da dz.length dc] 25)).alloc (.cells #[.bool c', .slice sa' sz'.length sc', .slice da' dz'.length dc'] 25)).alloc (.cells #[.bool false, .slice none 0 0, .slice none 0 0] 25))) := (((Below.refl _ w).alloc (Nat.le_refl _) _).alloc (by simp) _).alloc (by simp; omega) _
  have pa := ((Abx.new w (.bool c) (.slice sa sz.length sc) (.slice da dz.length dc)).al (.cells #[.bool c', .slice sa' sz'.length sc', .slice da' dz'.length dc'] 25)).al (.cells #[.bool false, .slice none 0 0, .slice none 0 0] 25)
  have pa_0 := pa.c0
  have pa_1 := pa.c1
  have pa_2 := pa.c2
  have pb := (Abx.new1 w (.cells #[.bool c, .slice sa sz.length sc, .slice da dz.length dc] 25) (.bool c') (.slice sa' sz'.length sc') (.slice da' dz'.length dc')).al (.cells #[.bool false, .slice none 0 0, .slice none 0 0] 25)
  have pb_0 := pb.c0
  have pb_1 := pb.c1
  have pb_2 := pb.c2
  have pr : Abx (((w.alloc (.cells #[.bool c, .slice sa sz.length sc, .slice da dz.length dc] 25)).alloc (.cells #[.bool c', .slice sa' sz'.length sc', .slice da' dz'.length dc'] 25)).alloc (.cells #[.bool false, .slice none 0 0, .slice none 0 0] 25)) (w.heap.size + 1 + 1) (.bool false) (.slice none 0 0) (.slice none 0 0) := by
    have := Abx.new1 (w.alloc (.cells #[.bool c, .slice sa sz.length sc, .slice da dz.length dc] 25)) (.cells #[.bool c', .slice sa' sz'.length sc', .slice da' dz'.length dc'] 25) (.bool false) (.slice none 0 0) (.slice none 0 0)
    rwa [World.size_alloc] at this
  go_enter Tryd.func4, Tryd.ntmps4
  go_wp2_with fail
  refine (flaws_any c c' sa sc sz da dc dz sa' sc' sz' da' dc' dz' h1 h2 h1' h2' _ ((HI.out.1.1.below hb.out).mono hb.out.size) ((HI.out.1.2.below hb.out).mono hb.out.size) ((HI.out.2.1.below hb.out).mono hb.out.size) ((HI.out.2.2.below hb.out).mono hb.out.size)).mono ?_
  rintro e v1 ⟨rfl, hB⟩
  replace hb : Hid (Below w.heap.size w v1) := hb.out.trans (hB.mono hb.out.size)
  replace pa := pa.go hB
  replace pb := pb.go hB
  replace pr := pr.go hB
  replace pa_0 := pa.c0
  replace pa_1 := pa.c1
  replace pa_2 := pa.c2
  replace pb_0 := pb.c0
  replace pb_1 := pb.c1
  replace pb_2 := pb.c2
  clear hB
  rw [G.out]
  have t1 : ((sz.length : Int) == 0) = false := by rw [beq_eq_false_iff_ne]; have := R.out.1; omega
  have t2 : (0 : Int) < (sz'.length : Int) := by have := R.out.2.1; omega
  have t3 : ((sz.length : Int) != (sz'.length : Int)) = true := by rw [bne_iff_ne]; have := R.out.2.2; omega
  have r_0 := pr.c0
  have r_1 := pr.c1
  have r_2 := pr.c2
  have f_0 := pr.fr 0
  have f_1 := pr.fr 1
  have f_2 := pr.fr 2
  go_wp2_with fail
  have FF := pr.set3 (.bool false) (.slice none 0 0) (.slice none 0 0)
  have q0 := FF.c0
  have q1 := FF.c1
  have q2 := FF.c2
  exact bodyPost_ret (v := .tuple #[.agg #[.bool false, .slice none 0 0, .slice none 0 0], .int .i64 (3)]) (by simp [results, Tryd.results4, go_sem, q0, q1, q2]) rfl (R2P.no (e2E_rank (by omega) G.out R.out) (by decide) (bel_set3 hb.out (by omega) _ _ _))
end Go.Proofs.YtmbgomljofngnaaDoor
