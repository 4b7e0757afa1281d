/-
  What the reference makes of each cell by itself.
-/
import Derived.Test.YtpecdlkdogmoeaaDoorApps
import Derived.Test.YtpecdlkdogmoeaaDoorFlaw
import Derived.Test.YtpecdlkdogmoeaaDoorRone
import Derived.Test.YtpecdlkdogmoeaaDoorEachm
namespace Go.Proofs.YtpecdlkdogmoeaaDoor
open Go.RowKit
set_option linter.unusedVariables false

theorem e1E_fn {f : Int} {c : Bool} {sz dz : List Int} (h : oneE f 0 ≠ 0) : e1E f c sz dz = oneE f 0 := by unfold e1E; rw [if_pos h]
theorem e1E_flaw {f : Int} {c : Bool} {sz dz : List Int} (h : oneE f 0 = 0) (h2 : flawE c sz dz ≠ 0) : e1E f c sz dz = flawE c sz dz := by unfold e1E; rw [if_neg (by simpa using h), if_pos h2]
theorem e1E_char {f : Int} {sz dz : List Int} (h : oneE f 0 = 0) (h2 : flawE true sz dz = 0) : e1E f true sz dz = 6 := by unfold e1E; rw [if_neg (by simpa using h), if_neg (by simpa using h2), if_pos rfl]
theorem e1E_cell {f : Int} {sz dz : List Int} (h : oneE f 0 = 0) (h2 : flawE false sz dz = 0) {k : Nat} (hk : k < dz.length) (hx : oneE f (nth dz k) ≠ 0) : e1E f false sz dz = 6 ∧ oneE f (nth dz k) = 6 := by
  refine ⟨?_, (oneE_cell h (nth dz k)).resolve_left hx⟩
  unfold e1E
  rw [if_neg (by simpa using h), if_neg (by simpa using h2), if_neg (by decide), if_neg]
  intro ha
  have := List.all_eq_true.1 ha (nth dz k) (nth_mem dz k hk)
  exact hx (by simpa using this)
theorem e1E_ok {f : Int} {sz dz : List Int} (h : oneE f 0 = 0) (h2 : flawE false sz dz = 0) (ha : ∀ k, k < dz.length → oneE f (nth dz k) = 0) : e1E f false sz dz = 0 := by
  unfold e1E
  rw [if_neg (by simpa using h), if_neg (by simpa using h2), if_neg (by decide), if_pos]
  rw [List.all_eq_true]
  intro x hx
  obtain ⟨k, hk, rfl⟩ := List.getElem_of_mem hx
  have := ha k hk
  rw [nth_get dz k hk] at this
  simp [this]
theorem e1V_snoc (f : Int) (dz : List Int) {k : Nat} (hk : k < dz.length) : e1V f (dz.take (k + 1)) = e1V f (dz.take k) ++ [oneV f (nth dz k)] := by
  unfold e1V
  rw [take_snoc dz k hk, List.map_append]; rfl
theorem take_len (zs : List Int) {k : Nat} (h : k ≤ zs.length) : (zs.take k).length = k := by simp; omega
theorem e1V_len (f : Int) (dz : List Int) {k : Nat} (h : k ≤ dz.length) : (e1V f (dz.take k)).length = k := by rw [e1V_length, take_len _ h]
/-- What EachOne tells. -/
def R1P (f : Int) (c : Bool) (sz dz : List Int) (w : World) (e : Ending) (w' : World) : Prop :=
  (e1E f c sz dz ≠ 0 ∧ e = .returned (.tuple #[.agg #[.bool false, .slice none 0 0, .slice none 0 0], .int .i64 (e1E f c sz dz)]) ∧ Below w.heap.size w w') ∨
  (e1E f c sz dz = 0 ∧ ∃ xa xc ya yc, e = .returned (.tuple #[.agg #[.bool false, .slice xa sz.length xc, .slice ya (e1V f dz).length yc], .int .i64 0]) ∧ NewInts w.heap.size w' xa sz ∧ NewInts w.heap.size w' ya (e1V f dz) ∧ Below w.heap.size w w')
theorem R1P.no {f : Int} {c : Bool} {sz dz : List Int} {w w' : World} {e : Int} (h : e1E f c sz dz = e) (h0 : e ≠ 0) (hB : Below w.heap.size w w') : R1P f c sz dz w (.returned (.tuple #[.agg #[.bool false, .slice none 0 0, .slice none 0 0], .int .i64 e])) w' := by
  subst h; exact .inl ⟨h0, rfl, hB⟩
set_option maxRecDepth 100000 in
set_option maxHeartbeats 8000000 in
theorem reach1_fn (f : Int) (c : Bool) (sa : Option Addr) (sc : Nat) (sz : List Int) (da : Option Addr) (dc : Nat) (dz : List Int) (h1 : sz.length ≤ 9223372036854775807) (h2 : dz.length ≤ 9223372036854775807) (w : World) (hs : IsInts w.heap.size w sa sz) (hd : IsInts w.heap.size w da dz) (F : Hid (oneE f 0 ≠ 0)) :
    Calls Tryd.prog 5 #[.int .i64 f, .agg #[.bool c, .slice sa sz.length sc, .slice da dz.length dc]] w fun e w' => R1P f c sz dz w e w' := by
  have HI : Hid (IsInts w.heap.size w sa sz ∧ IsInts w.heap.size w da dz) := ⟨hs, hd⟩
  clear hs hd
  have hb : Hid (Below w.heap.size w ((w.alloc (.cells #[.bool c, .slice sa sz.length sc, .slice da dz.length dc] 25)).alloc (.cells #[.bool false, .slice none 0 0, .slice none 0 0] 25))) := ((Below.refl _ w).alloc (Nat.le_refl _) _).alloc (by simp) _
  have pa := (Abx.new w (.bool c) (.slice sa sz.length sc) (.slice da dz.length dc)).al (.cells #[.bool false, .slice none 0 0, .slice none 0 0] 25)
  have pa_0 := pa.c0
  have pa_1 := pa.c1
  have pa_2 := pa.c2
  have pr := Abx.new1 w (.cells #[.bool c, .slice sa sz.length sc, .slice da dz.length dc] 25) (.bool false) (.slice none 0 0) (.slice none 0 0)
  go_enter Tryd.func5, Tryd.ntmps5
  go_wp2_with fail
  refine (rone_any f 0 _).mono ?_
  rintro e v0 ⟨rfl, hv0⟩
  subst hv0
  have te : (oneE f 0 != 0) = true := by simpa using F.out
  go_wp2_with fail
  exact bodyPost_ret (v := .tuple #[.agg #[.bool false, .slice none 0 0, .slice none 0 0], .int .i64 (oneE f 0)]) (by simp [results, Tryd.results5, go_sem]) rfl (R1P.no (e1E_fn F.out) F.out hb.out)
set_option maxRecDepth 100000 in
set_option maxHeartbeats 8000000 in
theorem reach1_flaw (f : Int) (c : Bool) (sa : Option Addr) (sc : Nat) (sz : List Int) (da : Option Addr) (dc : Nat) (dz : List Int) (h1 : sz.length ≤ 9223372036854775807) (h2 : dz.length ≤ 9223372036854775807) (w : World) (hs : IsInts w.heap.size w sa sz) (hd : IsInts w.heap.size w da dz) (O : Hid (oneE f 0 = 0)) (F : Hid (flawE c sz dz ≠ 0)) :
    Calls Tryd.prog 5 #[.int .i64 f, .agg #[.bool c, .slice sa sz.length sc, .slice da dz.length dc]] w fun e w' => R1P f c sz dz w e w' := by
  have HI : Hid (IsInts w.heap.size w sa sz ∧ IsInts w.heap.size w da dz) := ⟨hs, hd⟩
  clear hs hd
  have hb : Hid (Below w.heap.size w ((w.alloc (.cells #[.bool c, .slice sa sz.length sc, .slice da dz.length dc] 25)).alloc (.cells #[.bool false, .slice none 0 0, .slice none 0 0] 25))) := ((Below.refl _ w).alloc (Nat.le_refl _) _).alloc (by simp) _
  have pa := (Abx.new w (.bool c) (.slice sa sz.length sc) (.slice da dz.length dc)).al (.cells #[.bool false, .slice none 0 0, .slice none 0 0] 25)
  have pa_0 := pa.c0
  have pa_1 := pa.c1
  have pa_2 := pa.c2
  have pr := Abx.new1 w (.cells #[.bool c, .slice sa sz.length sc, .slice da dz.length dc] 25) (.bool false) (.slice none 0 0) (.slice none 0 0)
  go_enter Tryd.func5, Tryd.ntmps5
  go_wp2_with fail
  refine (rone_any f 0 _).mono ?_
  rintro e v0 ⟨rfl, hv0⟩
  subst hv0
  rw [O.out]
  go_wp2_with fail
  refine (flaw_any c sa sc sz da dc dz h1 h2 _ ((HI.out.1.below hb.out).mono hb.out.size) ((HI.out.2.below hb.out).mono hb.out.size)).mono ?_
  rintro e v1 ⟨rfl, hB⟩
  replace hb : Hid (Below w.heap.size w v1) := hb.out.trans (hB.mono hb.out.size)
  replace pa := pa.go hB
  replace pr := pr.go hB
  replace pa_0 := pa.c0
  replace pa_1 := pa.c1
  replace pa_2 := pa.c2
  clear hB
  have te : (flawE c sz dz != 0) = true := by simpa using F.out
  have r_0 := pr.c0
  have r_1 := pr.c1
  have r_2 := pr.c2
  have f_0 := pr.fr 0
  have f_1 := pr.fr 1
  have f_2 := pr.fr 2
  go_wp2_with fail
  have FF := pr.set3 (.bool false) (.slice none 0 0) (.slice none 0 0)
  have q0 := FF.c0
  have q1 := FF.c1
  have q2 := FF.c2
  exact bodyPost_ret (v := .tuple #[.agg #[.bool false, .slice none 0 0, .slice none 0 0], .int .i64 (flawE c sz dz)]) (by simp [results, Tryd.results5, go_sem, q0, q1, q2]) rfl (R1P.no (e1E_flaw O.out F.out) F.out (bel_set3 hb.out (by omega) _ _ _))
set_option maxRecDepth 100000 in
set_option maxHeartbeats 8000000 in
theorem reach1_char (f : Int) (sa : Option Addr) (sc : Nat) (sz : List Int) (da : Option Addr) (dc : Nat) (dz : List Int) (h1 : sz.length ≤ 9223372036854775807) (h2 : dz.length ≤ 9223372036854775807) (w : World) (hs : IsInts w.heap.size w sa sz) (hd : IsInts w.heap.size w da dz) (O : Hid (oneE f 0 = 0)) (F : Hid (flawE true sz dz = 0)) :
    Calls Tryd.prog 5 #[.int .i64 f, .agg #[.bool true, .slice sa sz.length sc, .slice da dz.length dc]] w fun e w' => R1P f true sz dz w e w' := by
  have HI : Hid (IsInts w.heap.size w sa sz ∧ IsInts w.heap.size w da dz) := ⟨hs, hd⟩
  clear hs hd
  have hb : Hid (Below w.heap.size w ((w.alloc (.cells #[.bool true, .slice sa sz.length sc, .slice da dz.length dc] 25)).alloc (.cells #[.bool false, .slice none 0 0, .slice none 0 0] 25))) := ((Below.refl _ w).alloc (Nat.le_refl _) _).alloc (by simp) _
  have pa := (Abx.new w (.bool true) (.slice sa sz.length sc) (.slice da dz.length dc)).al (.cells #[.bool false, .slice none 0 0, .slice none 0 0] 25)
  have pa_0 := pa.c0
  have pa_1 := pa.c1
  have pa_2 := pa.c2
  have pr := Abx.new1 w (.cells #[.bool true, .slice sa sz.length sc, .slice da dz.length dc] 25) (.bool false) (.slice none 0 0) (.slice none 0 0)
  go_enter Tryd.func5, Tryd.ntmps5
  go_wp2_with fail
  refine (rone_any f 0 _).mono ?_
  rintro e v0 ⟨rfl, hv0⟩
  subst hv0
  rw [O.out]
  go_wp2_with fail
  refine (flaw_any true sa sc sz da dc dz h1 h2 _ ((HI.out.1.below hb.out).mono hb.out.size) ((HI.out.2.below hb.out).mono hb.out.size)).mono ?_
  rintro e v1 ⟨rfl, hB⟩
  replace hb : Hid (Below w.heap.size w v1) := hb.out.trans (hB.mono hb.out.size)
  replace pa := pa.go hB
  replace pr := pr.go hB
  replace pa_0 := pa.c0
  replace pa_1 := pa.c1
  replace pa_2 := pa.c2
  clear hB
  rw [F.out]
  have r_0 := pr.c0
  have r_1 := pr.c1
  have r_2 := pr.c2
  have f_0 := pr.fr 0
  have f_1 := pr.fr 1
  have f_2 := pr.fr 2
  go_wp2_with fail
  have FF := pr.set3 (.bool false) (.slice none 0 0) (.slice none 0 0)
  have q0 := FF.c0
  have q1 := FF.c1
  have q2 := FF.c2
  exact bodyPost_ret (v := .tuple #[.agg #[.bool false, .slice none 0 0, .slice none 0 0], .int .i64 (6)]) (by simp [results, Tryd.results5, go_sem, q0, q1, q2]) rfl (R1P.no (e1E_char O.out F.out) (by decide) (bel_set3 hb.out (by omega) _ _ _))
set_option maxRecDepth 100000 in
set_option maxHeartbeats 8000000 in
theorem reach1_num (f : Int) (sa : Option Addr) (sc : Nat) (sz : List Int) (da : Option Addr) (dc : Nat) (dz : List Int) (h1 : sz.length ≤ 9223372036854775807) (h2 : dz.length ≤ 9223372036854775807) (w : World) (hs : IsInts w.heap.size w sa sz) (hd : IsInts w.heap.size w da dz) (O : Hid (oneE f 0 = 0)) (F : Hid (flawE false sz dz = 0)) :
    Calls Tryd.prog 5 #[.int .i64 f, .agg #[.bool false, .slice sa sz.length sc, .slice da dz.length dc]] w fun e w' => R1P f false sz dz w e w' := by
  have HI : Hid (IsInts w.heap.size w sa sz ∧ IsInts w.heap.size w da dz) := ⟨hs, hd⟩
  clear hs hd
  have hb : Hid (Below w.heap.size w ((w.alloc (.cells #[.bool false, .slice sa sz.length sc, .slice da dz.length dc] 25)).alloc (.cells #[.bool false, .slice none 0 0, .slice none 0 0] 25))) := ((Below.refl _ w).alloc (Nat.le_refl _) _).alloc (by simp) _
  have pa := (Abx.new w (.bool false) (.slice sa sz.length sc) (.slice da dz.length dc)).al (.cells #[.bool false, .slice none 0 0, .slice none 0 0] 25)
  have pa_0 := pa.c0
  have pa_1 := pa.c1
  have pa_2 := pa.c2
  have pr := Abx.new1 w (.cells #[.bool false, .slice sa sz.length sc, .slice da dz.length dc] 25) (.bool false) (.slice none 0 0) (.slice none 0 0)
  go_enter Tryd.func5, Tryd.ntmps5
  go_wp2_with fail
  refine (rone_any f 0 _).mono ?_
  rintro e v0 ⟨rfl, hv0⟩
  subst hv0
  rw [O.out]
  go_wp2_with fail
  refine (flaw_any false sa sc sz da dc dz h1 h2 _ ((HI.out.1.below hb.out).mono hb.out.size) ((HI.out.2.below hb.out).mono hb.out.size)).mono ?_
  rintro e v1 ⟨rfl, hB⟩
  replace hb : Hid (Below w.heap.size w v1) := hb.out.trans (hB.mono hb.out.size)
  replace pa := pa.go hB
  replace pr := pr.go hB
  replace pa_0 := pa.c0
  replace pa_1 := pa.c1
  replace pa_2 := pa.c2
  clear hB
  rw [F.out]
  have HL : Hid (sz.length ≤ 6 ∧ dz.length ≤ 4096) := flawE_short F.out
  have la := pa.lt
  have lr := pr.lt
  have ls := hb.out.size
  have pv_0 := pa.c0
  replace hb : Hid (Below w.heap.size w (v1.alloc (.cells #[.bool false, .slice none 0 0, .slice none 0 0] 25))) := hb.out.alloc hb.out.size _
  replace pa := pa.al (.cells #[.bool false, .slice none 0 0, .slice none 0 0] 25)
  replace pr := pr.al (.cells #[.bool false, .slice none 0 0, .slice none 0 0] 25)
  replace pa_0 := pa.c0
  replace pa_1 := pa.c1
  replace pa_2 := pa.c2
  have po : Abx (v1.alloc (.cells #[.bool false, .slice none 0 0, .slice none 0 0] 25)) v1.heap.size (.bool false) (.slice none 0 0) (.slice none 0 0) := Abx.new v1 _ _ _
  have HP : Hid (Abx (v1.alloc (.cells #[.bool false, .slice none 0 0, .slice none 0 0] 25)) w.heap.size (.bool false) (.slice sa sz.length sc) (.slice da dz.length dc) ∧ Abx (v1.alloc (.cells #[.bool false, .slice none 0 0, .slice none 0 0] 25)) (w.heap.size + 1) (.bool false) (.slice none 0 0) (.slice none 0 0) ∧ Abx (v1.alloc (.cells #[.bool false, .slice none 0 0, .slice none 0 0] 25)) v1.heap.size (.bool false) (.slice none 0 0) (.slice none 0 0) ∧ Below w.heap.size w (v1.alloc (.cells #[.bool false, .slice none 0 0, .slice none 0 0] 25))) := ⟨pa, pr, po, hb.out⟩
  go_wp2_with fail
  clear pa pr po hb pa_0 pa_1 pa_2
  go_loopw [9] (fun i wr => ∃ (k : Nat) (v : Value), k ≤ sz.length ∧ i = .int .i64 k ∧ Abx wr w.heap.size (.bool false) (.slice sa sz.length sc) (.slice da dz.length dc) ∧ Abx wr (w.heap.size + 1) (.bool false) (.slice none 0 0) (.slice none 0 0) ∧ Abx wr (v1.heap.size) (.bool false) v (.slice none 0 0)
      ∧ wr.ownsRow (v1.heap.size + 1) 3 1 v (sz.take k).length ((sz.take k).map (Value.int .i64)) ∧ v1.heap.size + 1 ≤ wr.heap.size ∧ Below w.heap.size w wr) (fun i _ => sz.length - (intOf i).toNat)
  case atStart => exact ⟨0, .slice none 0 0, Nat.zero_le _, rfl, HP.out.1, HP.out.2.1, HP.out.2.2.1, World.ownsRow_nil _ _ _ _, by simp, HP.out.2.2.2⟩
  case round =>
    obtain ⟨k, v, hk, rfl, hP, hR, hO, hown, hsz, hB⟩ := hrel
    have b1 := hP.c1
    by_cases hlt : k < sz.length
    · obtain ⟨b, off, rfl, hb, hcell⟩ := (HI.out.1.below hB).at hlt
      have hc := hcell k hlt
      clear hcell
      have o1 := hO.c1
      have hbw : b < wr.heap.size := by have := hB.size; omega
      have hl6 := HL.out.1
      have HR : Hid (Abx wr w.heap.size (.bool false) (.slice (some ⟨b, off, none⟩) sz.length sc) (.slice da dz.length dc) ∧ Abx wr (w.heap.size + 1) (.bool false) (.slice none 0 0) (.slice none 0 0) ∧ Abx wr (v1.heap.size) (.bool false) v (.slice none 0 0)) := ⟨hP, hR, hO⟩
      clear hP hR hO
      go_wp2_with fail
      refine anyT_begin 9 (fun w' => w'.cell? ⟨v1.heap.size, 1, none⟩ = some v ∧ w'.cell? ⟨w.heap.size, 1, none⟩ = some (.slice (some ⟨b, off, none⟩) sz.length sc) ∧ w'.cell? ⟨b, off + k, none⟩ = some (.int .i64 (nth sz k))) 11 #[false, false, false, false, false, false, false, false, false, false, false] (by kernel_rfl) rfl rfl ?_
      refine anyT_put 0 38 ?rv39 #[true, false, false, false, false, false, false, false, false, false, false] rfl rfl rfl (by kernel_rfl) (by kernel_rfl) (by kernel_rfl) (fun _ _ _ h => h) (by decide) ?ry39 (fun _ => ⟨o1, b1, hc⟩) ?rm39
      case ry39 => first | exact Or.inl ⟨by rfl, by intro w'; go_simp; first | done | rfl⟩
      case rm39 =>
      simp only [Act.put, List.setIfInBounds_toArray, List.set_cons_zero, List.set_cons_succ]
      refine anyT_take 1 39 ?rv40 #[true, true, false, false, false, false, false, false, false, false, false] rfl rfl rfl (by kernel_rfl) (by kernel_rfl) (by kernel_rfl) (fun _ _ _ h => h) (by kernel_rfl) (by decide) (by kernel_rfl) ?ry40 (⟨o1, b1, hc⟩) ?rm40
      case ry40 => first | exact Or.inl ⟨by rfl, by intro w' hw'; (try dsimp only at hw'); go_simp; first | done | rfl⟩
      case rm40 =>
      simp only [Act.put, List.setIfInBounds_toArray, List.set_cons_zero, List.set_cons_succ]
      refine anyT_put 2 40 ?rv41 #[true, true, true, false, false, false, false, false, false, false, false] rfl rfl rfl (by kernel_rfl) (by kernel_rfl) (by kernel_rfl) (fun _ _ _ h => h) (by decide) ?ry41 (fun _ => ⟨o1, b1, hc⟩) ?rm41
      case ry41 => first | exact Or.inl ⟨by rfl, by intro w'; go_simp; first | done | rfl⟩
      case rm41 =>
      simp only [Act.put, List.setIfInBounds_toArray, List.set_cons_zero, List.set_cons_succ]
      refine anyT_take 3 41 ?rv42 #[true, true, true, true, false, false, false, false, false, false, false] rfl rfl rfl (by kernel_rfl) (by kernel_rfl) (by kernel_rfl) (fun _ _ _ h => h) (by kernel_rfl) (by decide) (by kernel_rfl) ?ry42 (⟨o1, b1, hc⟩) ?rm42
      case ry42 => first | exact Or.inl ⟨by rfl, by intro w' hw'; (try dsimp only at hw'); go_simp; first | done | rfl⟩
      case rm42 =>
      simp only [Act.put, List.setIfInBounds_toArray, List.set_cons_zero, List.set_cons_succ]
      refine anyT_put 4 42 ?rv43 #[true, true, true, true, true, false, false, false, false, false, false] rfl rfl rfl (by kernel_rfl) (by kernel_rfl) (by kernel_rfl) (fun _ _ _ h => h) (by decide) ?ry43 (fun _ => ⟨o1, b1, hc⟩) ?rm43
      case ry43 => first | exact Or.inl ⟨by rfl, by intro w'; go_simp; first | done | rfl⟩
      case rm43 =>
      simp only [Act.put, List.setIfInBounds_toArray, List.set_cons_zero, List.set_cons_succ]
      refine anyT_put 5 43 ?rv44 #[true, true, true, true, true, true, false, false, false, false, false] rfl rfl rfl (by kernel_rfl) (by kernel_rfl) (by kernel_rfl) (fun _ _ _ h => h) (by decide) ?ry44 (fun _ => ⟨o1, b1, hc⟩) ?rm44
      case ry44 => first | exact Or.inl ⟨by rfl, by intro w'; go_simp; first | done | rfl⟩
      case rm44 =>
      simp only [Act.put, List.setIfInBounds_toArray, List.set_cons_zero, List.set_cons_succ]
      refine anyT_take 6 44 ?rv45 #[true, true, true, true, true, true, true, false, false, false, false] rfl rfl rfl (by kernel_rfl) (by kernel_rfl) (by kernel_rfl) (fun _ _ _ h => h) (by kernel_rfl) (by decide) (by kernel_rfl) ?ry45 (⟨o1, b1, hc⟩) ?rm45
      case ry45 => first | exact Or.inl ⟨by rfl, by intro w' hw'; (try dsimp only at hw'); go_simp; first | done | rfl⟩
      case rm45 =>
      simp only [Act.put, List.setIfInBounds_toArray, List.set_cons_zero, List.set_cons_succ]
      refine anyT_one 7 #[true, true, true, true, true, true, true, true, false, false, false] (by kernel_rfl) rfl rfl (fun K hK => ?_)
      go_simp
      have k0 := HR.out.1.al (.cells #[.int .i64 (nth sz k)] 3)
      have k1 := HR.out.2.2.al (.cells #[.int .i64 (nth sz k)] 3)
      have k2 : (wr.alloc (.cells #[.int .i64 (nth sz k)] 3)).cell? ⟨b, off + k, none⟩ = some (.int .i64 (nth sz k)) := (World.cell?_alloc_lt wr _ ⟨b, off + k, none⟩ hbw).trans hc
      refine hK.out _ _ (fun _ => ⟨k1.c1, k0.c1, k2⟩) ?_
      clear hK K
      refine anyT_one 8 #[true, true, true, true, true, true, true, true, true, false, false] (by kernel_rfl) rfl rfl (fun K hK => ?_)
      refine app_step 46 rfl rfl _ _ rfl _ (v1.heap.size + 1) wr.heap.size v (sz.take k) (nth sz k) rfl rfl ((hown.alloc _).drew) (heap_alloc_new wr _) (by rw [take_len _ hk]; omega) (by simp; omega) ?_
      intro g gc w1 hown1 hB1
      have P5 := k0.dr.bel hB1 (by omega)
      have HO1 : Hid (Abx w1 (v1.heap.size) (.bool false) v (.slice none 0 0)) := k1.dr.bel hB1 (by omega)
      have q1 := HO1.out.c1
      have qf := HO1.out.fr 1
      have qc : w1.cell? ⟨b, off + k, none⟩ = some (.int .i64 (nth sz k)) := (hB1.cell (p := ⟨b, off + k, none⟩) (by show b < _; omega)).trans k2
      refine hK.out _ _ (fun _ => ⟨q1, P5.c1, qc⟩) ?_
      clear hK K
      simp only [Act.put, List.setIfInBounds_toArray, List.set_cons_zero, List.set_cons_succ]
      refine anyT_one 9 #[true, true, true, true, true, true, true, true, true, true, false] (by kernel_rfl) rfl rfl (fun K hK => ?_)
      go_simp
      refine hK.out _ _ (fun h => absurd h (by decide)) ?_
      clear hK K
      refine anyT_one 10 #[true, true, true, true, true, true, true, true, true, true, true] (by kernel_rfl) rfl rfl (fun K hK => ?_)
      go_simp
      refine hK.out _ _ (fun h => absurd h (by decide)) ?_
      clear hK K
      refine anyT_done (by kernel_rfl) ?_
      go_wp2_with fail
      rw [← take_snoc sz k hlt, take_len _ hk] at hown1
      have hz1 := hB1.size
      simp at hz1
      refine ⟨⟨k + 1, .slice (some ⟨g, 0, none⟩) (k + 1) gc, by omega, by go_num, P5.ot (by show w.heap.size ≠ v1.heap.size; omega) _, ?_, HO1.out.s1 _, ?_, by simp [World.setCell]; omega, ?_⟩, by simp [intOf]; omega⟩
      · exact ((HR.out.2.1.al _).dr.bel hB1 (by omega)).ot (by show w.heap.size + 1 ≠ v1.heap.size; omega) _
      · rw [take_len _ (show k + 1 ≤ sz.length by omega)]
        exact ownsRow_setCell_below hown1 (by show v1.heap.size < v1.heap.size + 1; omega) _
      · exact (((hB.alloc (by omega) _).drew.trans (hB1.mono (by omega)))).setCell (p := ⟨v1.heap.size, 1, none⟩) (by show w.heap.size ≤ v1.heap.size; omega) _
    · obtain rfl : k = sz.length := by omega
      rw [List.take_length] at hown
      obtain ⟨g, gc, rfl, hN⟩ := owns_new hown
      have hM := hN.mid
      have HS : Hid (Abx wr w.heap.size (.bool false) (.slice sa sz.length sc) (.slice da dz.length dc) ∧ Abx wr (w.heap.size + 1) (.bool false) (.slice none 0 0) (.slice none 0 0) ∧ Abx wr (v1.heap.size) (.bool false) (.slice g sz.length gc) (.slice none 0 0)) := ⟨hP, hR, hO⟩
      clear hown hlt hN hP hR hO
      go_wp2_with fail
      obtain ⟨W2, hW2⟩ : ∃ W2, W2 = wr := ⟨_, rfl⟩
      rw [← hW2] at hM HS hsz hB ⊢
      clear hW2
      go_loopw [10] (fun i wx => ∃ (k : Nat) (v : Value), k ≤ dz.length ∧ i = .int .i64 k ∧ Hid (∀ j, j < k → oneE f (nth dz j) = 0) ∧ Abx wx w.heap.size (.bool false) (.slice sa sz.length sc) (.slice da dz.length dc) ∧ Abx wx (w.heap.size + 1) (.bool false) (.slice none 0 0) (.slice none 0 0) ∧ Abx wx (v1.heap.size) (.bool false) (.slice g sz.length gc) v
          ∧ wx.ownsRow W2.heap.size 3 1 v (e1V f (dz.take k)).length ((e1V f (dz.take k)).map (Value.int .i64)) ∧ MidInts (v1.heap.size + 1) W2.heap.size wx g sz ∧ W2.heap.size ≤ wx.heap.size ∧ Below w.heap.size w wx) (fun i _ => dz.length - (intOf i).toNat)
      case atStart => exact ⟨0, .slice none 0 0, Nat.zero_le _, rfl, (fun j hj => by omega), HS.out.1, HS.out.2.1, HS.out.2.2, World.ownsRow_nil _ _ _ _, hM, Nat.le_refl _, hB⟩
      case round =>
        clear hM
        obtain ⟨k, v, hk, rfl, HA, hP, hR, hO, hown, hM, hsx, hBx⟩ := hrel
        have b2 := hP.c2
        have o2 := hO.c2
        have of2 := hO.fr 2
        have hl4 := HL.out.2
        by_cases hlt : k < dz.length
        · obtain ⟨b, off, rfl, hb, hcell⟩ := (HI.out.2.below hBx).at hlt
          have hc := hcell k hlt
          clear hcell
          by_cases hx : oneE f (nth dz k) = 0
          · have HX : Hid (oneE f (nth dz k) = 0) := hx
            clear hx
            have HN : Hid (e1V f (dz.take (k + 1)) = e1V f (dz.take k) ++ [oneV f (nth dz k)]) := e1V_snoc f dz hlt
            have HR : Hid (Abx wr w.heap.size (.bool false) (.slice sa sz.length sc) (.slice (some ⟨b, off, none⟩) dz.length dc) ∧ Abx wr (w.heap.size + 1) (.bool false) (.slice none 0 0) (.slice none 0 0) ∧ Abx wr (v1.heap.size) (.bool false) (.slice g sz.length gc) v) := ⟨hP, hR, hO⟩
            have HR2 := hO.al (.cells #[.int .i64 (oneV f (nth dz k))] 3)
            have o2' := HR2.c2
            clear hP hR hO
            go_wp2_with fail
            refine (rone_any f (nth dz k) wr).mono ?_
            rintro e v2 ⟨rfl, hv2⟩
            subst hv2
            rw [HX.out]
            go_wp2_with (at_builtin; refine app_list rfl _ _ rfl _ W2.heap.size v2.heap.size v (e1V f (dz.take k)) (oneV f (nth dz k)) rfl rfl (hown.alloc _) (heap_alloc_new v2 _) (by rw [e1V_len f dz hk]; omega) (by simp; omega) ?_; intro g1 gc1 w3 hown1 hBg; have P5 := (HR.out.1.al _).bel hBg (by omega); have O5 := (HR.out.2.2.al _).bel hBg (by omega); have q2 := O5.c2; have qf := O5.fr 2)
            rw [← HN.out, e1V_len f dz hk] at hown1
            rw [e1V_len f dz hk]
            have hz3 := hBg.size
            simp at hz3
            refine ⟨⟨k + 1, .slice (some ⟨g1, 0, none⟩) (k + 1) gc1, by omega, by go_num, allN HA.out HX.out, P5.ot (by show w.heap.size ≠ v1.heap.size; omega) _, ?_, O5.s2 _, ?_, ?_, by simp [World.setCell]; omega, ?_⟩, by simp [intOf]; omega⟩
            · exact ((HR.out.2.1.al _).bel hBg (by omega)).ot (by show w.heap.size + 1 ≠ v1.heap.size; omega) _
            · rw [e1V_len f dz (show k + 1 ≤ dz.length by omega)]
              exact ownsRow_setCell_below hown1 (by show v1.heap.size < W2.heap.size; omega) _
            · exact ((hM.al hsx _).bel hBg).set (by show v1.heap.size < v1.heap.size + 1; omega) _
            · exact ((hBx.alloc hBx.size _).trans (hBg.mono (by omega))).setCell (p := ⟨v1.heap.size, 2, none⟩) (by show w.heap.size ≤ v1.heap.size; omega) _
          · obtain ⟨HE, H6⟩ := e1E_cell O.out F.out hlt hx
            have HE' : Hid (e1E f false sz dz = 6) := HE
            have H6' : Hid (oneE f (nth dz k) = 6) := H6
            clear HE H6 hx
            have r_0 := hR.c0
            have r_1 := hR.c1
            have r_2 := hR.c2
            have f_0 := hR.fr 0
            have f_1 := hR.fr 1
            have f_2 := hR.fr 2
            go_wp2_with fail
            refine (rone_any f (nth dz k) wr).mono ?_
            rintro e v2 ⟨rfl, hv2⟩
            subst hv2
            rw [H6'.out]
            go_wp2_with fail
            have FF := hR.set3 (.bool false) (.slice none 0 0) (.slice none 0 0)
            have q0 := FF.c0
            have q1 := FF.c1
            have q2 := FF.c2
            exact bodyPost_ret (v := .tuple #[.agg #[.bool false, .slice none 0 0, .slice none 0 0], .int .i64 6]) (by simp [results, Tryd.results5, go_sem, q0, q1, q2]) rfl (R1P.no HE'.out (by decide) (bel_set3 hBx (by omega) _ _ _))
        · obtain rfl : k = dz.length := by omega
          rw [List.take_length] at hown
          obtain ⟨g1, gc1, rfl, hN1⟩ := owns_new hown
          have HE : Hid (e1E f false sz dz = 0) := e1E_ok O.out F.out HA.out
          have o0 := hO.c0
          have o1 := hO.c1
          have r_0 := hR.c0
          have r_1 := hR.c1
          have r_2 := hR.c2
          have f_0 := hR.fr 0
          have f_1 := hR.fr 1
          have f_2 := hR.fr 2
          clear hown hlt
          go_wp2_with fail
          have FF := hR.set3 (.bool false) (.slice g sz.length gc) (.slice g1 (e1V f dz).length gc1)
          have q0 := FF.c0
          have q1 := FF.c1
          have q2 := FF.c2
          refine bodyPost_ret (v := .tuple #[.agg #[.bool false, .slice g sz.length gc, .slice g1 (e1V f dz).length gc1], .int .i64 0]) (by simp [results, Tryd.results5, go_sem, q0, q1, q2]) rfl (.inr ⟨HE.out, g, gc, g1, gc1, rfl, ?_, ?_, bel_set3 hBx (by omega) _ _ _⟩)
          · exact ((hM.new hsx).set3 (by omega) _ _ _).low (by omega)
          · exact (hN1.set3 (by omega) _ _ _).low (by omega)
theorem reach1_any (f : Int) (c : Bool) (sa : Option Addr) (sc : Nat) (sz : List Int) (da : Option Addr) (dc : Nat) (dz : List Int) (h1 : sz.length ≤ 9223372036854775807) (h2 : dz.length ≤ 9223372036854775807) (w : World) (hs : IsInts w.heap.size w sa sz) (hd : IsInts w.heap.size w da dz) :
    Calls Tryd.prog 5 #[.int .i64 f, .agg #[.bool c, .slice sa sz.length sc, .slice da dz.length dc]] w fun e w' => R1P f c sz dz w e w' := by
  by_cases o : oneE f 0 = 0
  · by_cases g : flawE c sz dz = 0
    · cases c
      · exact reach1_num f sa sc sz da dc dz h1 h2 w hs hd o g
      · exact reach1_char f sa sc sz da dc dz h1 h2 w hs hd o g
    · exact reach1_flaw f c sa sc sz da dc dz h1 h2 w hs hd o g
  · exact reach1_fn f c sa sc sz da dc dz h1 h2 w hs hd o
end Go.Proofs.YtpecdlkdogmoeaaDoor
