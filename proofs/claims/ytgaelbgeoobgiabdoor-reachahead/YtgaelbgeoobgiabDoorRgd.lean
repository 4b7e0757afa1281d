/-
  The program's relations: read from an array, and told as one.
-/
import Derived.Deep.DeepCutAuto
import Derived.Test.YtgaelbgeoobgiabDoorRgc
import Derived.Test.YtgaelbgeoobgiabDoorMidc
namespace Go.Proofs.YtgaelbgeoobgiabDoor
open Go.RowKit
set_option linter.unusedVariables false

theorem results_r3 {fn : Func} {p u v : Tmp} {ty : TypeId} (h : fn.results = #[.cell p ty, .tmp u, .tmp v]) (tmps : Array Value) (P : Program) (w : World) :
    (results fn tmps).run P w = ((asAddr (tmps.getD p undef)).run P w).andThen fun a w₁ => ((loadVar ty a).run P w₁).andThen fun x w₂ => .ok (.tuple #[x, tmps.getD u undef, tmps.getD v undef]) w₂ := by
  simp only [results, h]
  simp [Sem.run_bind, Result.andThen]
theorem res_r3 {fn : Func} {p u v : Tmp} (h : fn.results = #[.cell p 41, .tmp u, .tmp v]) (tmps : Array Value) (w : World) (b : Nat) (A : Rl) (x y : Value) (hp : tmps.getD p undef = .pointer (some ⟨b, 0, none⟩)) (hg : Rb w b A) (hx : tmps.getD u undef = x) (hy : tmps.getD v undef = y) :
    (results fn tmps).run Tryd.prog w = .ok (.tuple #[.agg (ofr A), x, y]) w := by
  rw [results_r3 h, hp, hx, hy]
  simp [asAddr, Result.andThen, ldr hg]
/-- Row by row, so far. -/
def rdP (n : Nat) (dz : List Int) (t : Nat) : Rl := fun a b => if a < n ∧ b < n ∧ a * n + b < t then nth dz (a * n + b) == 1 else false
/-- The relation of n things that a list is. -/
def rdR (n : Nat) (dz : List Int) : Rl := fun a b => if a < n ∧ b < n then nth dz (a * n + b) == 1 else false
section
variable {n a b t : Nat} {dz : List Int}
theorem row_div (hb : b < n) : (a * n + b) / n = a := by rw [Nat.mul_comm, Nat.mul_add_div (by omega), Nat.div_eq_of_lt hb, Nat.add_zero]
theorem row_mod (hb : b < n) : (a * n + b) % n = b := by rw [Nat.mul_comm, Nat.mul_add_mod, Nat.mod_eq_of_lt hb]
theorem row_lt (ha : a < n) (hb : b < n) : a * n + b < n * n := by
  have : a * n + n ≤ n * n := by rw [← Nat.succ_mul]; exact Nat.mul_le_mul_right n ha
  omega
theorem div_row (h : t < n * n) : t / n < n ∧ t % n < n ∧ t / n * n + t % n = t := by
  have hn : 0 < n := by
    rcases Nat.eq_zero_or_pos n with h0 | h0
    · rw [h0] at h; omega
    · exact h0
  exact ⟨Nat.div_lt_of_lt_mul h, Nat.mod_lt _ hn, by rw [Nat.mul_comm]; exact Nat.div_add_mod t n⟩
theorem rdP_next (h : t < n * n) : ptr (rdP n dz t) (t / n) (t % n) (nth dz t == 1) = rdP n dz (t + 1) := by
  obtain ⟨h1, h2, h3⟩ := div_row h
  funext a b
  unfold ptr rdP
  by_cases e : a = t / n ∧ b = t % n
  · rw [if_pos e, e.1, e.2, h3, if_pos ⟨h1, h2, by omega⟩]
  · rw [if_neg e]
    by_cases h2 : a < n ∧ b < n ∧ a * n + b < t
    · rw [if_pos h2, if_pos ⟨h2.1, h2.2.1, by omega⟩]
    · rw [if_neg h2, if_neg]
      rintro ⟨q1, q2, q3⟩
      have h4 : a * n + b = t := by
        rcases Nat.lt_or_ge (a * n + b) t with h5 | h5
        · exact absurd ⟨q1, q2, h5⟩ h2
        · omega
      exact e ⟨by rw [← h4, row_div q2], by rw [← h4, row_mod q2]⟩
theorem rdP_all (h : dz.length = n * n) : rdP n dz dz.length = rdR n dz := by
  funext a b
  unfold rdP rdR
  by_cases e : a < n ∧ b < n
  · rw [if_pos e, if_pos ⟨e.1, e.2, by rw [h]; exact row_lt e.1 e.2⟩]
  · rw [if_neg e, if_neg (fun q => e ⟨q.1, q.2.1⟩)]
theorem rdP_none : rdP n dz 0 = fun _ _ => false := by
  funext a b
  unfold rdP
  rw [if_neg (fun q => absurd q.2.2 (Nat.not_lt_zero _))]
theorem rdR_in (h : rdR n dz a b = true) : a < n ∧ b < n := by
  unfold rdR at h
  by_cases e : a < n ∧ b < n
  · exact e
  · rw [if_neg e] at h; exact absurd h (by decide)
end
set_option maxRecDepth 100000 in
set_option maxHeartbeats 2000000 in
theorem rread_no (c : Bool) (sa : Option Addr) (sc : Nat) (sz : List Int) (da : Option Addr) (dc : Nat) (dz : List Int) (w : World) (h1 : sz.length ≤ 9223372036854775807) (h2 : dz.length ≤ 9223372036854775807) (hs : IsInts w.heap.size w sa sz) (hd : IsInts w.heap.size w da dz) (h : rlE c sz dz ≠ 0) :
    Calls Tryd.prog 11 #[.agg #[.bool c, .slice sa sz.length sc, .slice da dz.length dc]] w fun e w' => e = .returned (.tuple #[.agg (ofr fun _ _ => false), .int .i64 0, .iface 33 (.int .i64 (rlE c sz dz))]) ∧ Below w.heap.size w w' := by
  obtain ⟨w0, HW⟩ : ∃ w0, Hid (w0 = (w.alloc (.cells #[.bool c, .slice sa sz.length sc, .slice da dz.length dc] 24)).alloc (.cells (ofr fun _ _ => false) 41)) := ⟨_, rfl⟩
  have HB0 : Hid (Below w.heap.size w w0) := by rw [HW.out]; exact ((Below.refl _ w).alloc (Nat.le_refl _) _).alloc (by simp) _
  have HA : Hid (Abx w0 w.heap.size (.bool c) (.slice sa sz.length sc) (.slice da dz.length dc)) := by rw [HW.out]; exact (Abx.new w _ _ _).al _
  have HG : Hid (Rb w0 (w.heap.size + 1) fun _ _ => false) := by rw [HW.out]; have := Rb.new (w.alloc (.cells #[.bool c, .slice sa sz.length sc, .slice da dz.length dc] 24)) fun _ _ => false; rwa [World.size_alloc] at this
  have hC := rcheck_any c sa sc sz da dc dz w0 h1 h2 ((hs.below HB0.out).mono HB0.out.size) ((hd.below HB0.out).mono HB0.out.size)
  rw [errV_pos h] at hC
  have p0 := HA.out.c0
  have p1 := HA.out.c1
  have p2 := HA.out.c2
  have hzR := zeroR
  clear hs hd h
  go_enter Tryd.func11, Tryd.ntmps11
  go_upto_region 1 with fail
  rw [← HW.out]
  go_wp2_with fail
  refine hC.mono ?_
  rintro e v1 ⟨rfl, hB⟩
  have HB1 : Hid (Below w.heap.size w v1) := HB0.out.trans (hB.mono HB0.out.size)
  have HG1 : Hid (Rb v1 (w.heap.size + 1) fun _ _ => false) := HG.out.go hB
  clear p0 p1 p2 HA HG HW HB0 hC hB
  go_wp2_with (refine wpl_str (w.heap.size + 1) _ (fun _ _ => false) _ _ HG1.out rfl rfl rfl rfl rfl ?_)
  exact bodyPost_ret (v := .tuple #[.agg (ofr fun _ _ => false), .int .i64 0, .iface 33 (.int .i64 (rlE c sz dz))]) (res_r3 rfl _ _ (w.heap.size + 1) _ _ _ rfl HG1.out.row rfl rfl) rfl ⟨rfl, bel_rw HB1.out (by omega)⟩
set_option maxRecDepth 100000 in
set_option maxHeartbeats 2000000 in
theorem rread_ok (n : Nat) (hn : n ≤ 24) (sa : Option Addr) (sc : Nat) (da : Option Addr) (dc : Nat) (dz : List Int) (hl : dz.length = n * n) (hm : mskB dz = true) (w : World) (hs : IsInts w.heap.size w sa [(n : Int), (n : Int)]) (hd : IsInts w.heap.size w da dz) :
    Calls Tryd.prog 11 #[.agg #[.bool false, .slice sa 2 sc, .slice da dz.length dc]] w fun e w' => e = .returned (.tuple #[.agg (ofr (rdR n dz)), .int .i64 (n : Nat), .nilIface]) ∧ Below w.heap.size w w' := by
  obtain ⟨w0, HW⟩ : ∃ w0, Hid (w0 = (w.alloc (.cells #[.bool false, .slice sa 2 sc, .slice da dz.length dc] 24)).alloc (.cells (ofr fun _ _ => false) 41)) := ⟨_, rfl⟩
  have HB0 : Hid (Below w.heap.size w w0) := by rw [HW.out]; exact ((Below.refl _ w).alloc (Nat.le_refl _) _).alloc (by simp) _
  have HA : Hid (Abx w0 w.heap.size (.bool false) (.slice sa 2 sc) (.slice da dz.length dc)) := by rw [HW.out]; exact (Abx.new w _ _ _).al _
  have HG : Hid (Rb w0 (w.heap.size + 1) fun _ _ => false) := by rw [HW.out]; have := Rb.new (w.alloc (.cells #[.bool false, .slice sa 2 sc, .slice da dz.length dc] 24)) fun _ _ => false; rwa [World.size_alloc] at this
  have h36 : dz.length ≤ 576 := by have : n * n ≤ 24 * 24 := Nat.mul_le_mul hn hn; omega
  have hC := rcheck_any false sa sc [(n : Int), (n : Int)] da dc dz w0 (by simp) (by omega) ((hs.below HB0.out).mono HB0.out.size) ((hd.below HB0.out).mono HB0.out.size)
  rw [rl_of n hn dz hl hm, errV_zero] at hC
  have HI : Hid (IsInts w.heap.size w sa [(n : Int), (n : Int)] ∧ IsInts w.heap.size w da dz) := ⟨hs, hd⟩
  have HL : Hid (dz.length = n * n) := hl
  have p0 := HA.out.c0
  have p1 := HA.out.c1
  have p2 := HA.out.c2
  have hzR := zeroR
  clear hs hd hl hm
  go_enter Tryd.func11, Tryd.ntmps11
  go_upto_region 1 with fail
  rw [← HW.out]
  go_wp2_with fail
  refine hC.mono ?_
  rintro e v1 ⟨rfl, hB⟩
  have HB1 : Hid (Below w.heap.size w v1) := HB0.out.trans (hB.mono HB0.out.size)
  have HG1 : Hid (Rb v1 (w.heap.size + 1) fun _ _ => false) := HG.out.go hB
  have HA1 : Hid (Abx v1 w.heap.size (.bool false) (.slice sa 2 sc) (.slice da dz.length dc)) := HA.out.go hB
  obtain ⟨b, off, hab, hb, hc⟩ := (HI.out.1.below HB1.out).at (q := 0) (by simp)
  subst hab
  have k0 := hc 0 (by simp)
  rw [Nat.add_zero] at k0
  have k0' : v1.cell? ⟨b, off, none⟩ = some (.int .i64 (n : Int)) := k0
  have q1 := HA1.out.c1
  have hb7 : w.heap.size + 1 + 1 ≤ v1.heap.size := by have := HG1.out.lt; omega
  clear p0 p1 p2 HA HG HW HB0 hC hB hc k0
  go_upto_region 6 with fail
  obtain ⟨w2, HW2⟩ : ∃ w2, Hid (w2 = v1.alloc (.cells (ofr fun _ _ => false) 41)) := ⟨_, rfl⟩
  rw [← HW2.out]
  obtain ⟨b7, hb7e⟩ : ∃ b, b = v1.heap.size := ⟨_, rfl⟩
  rw [← hb7e] at hb7 ⊢
  have HQ2 : Hid (Abx w2 w.heap.size (.bool false) (.slice (some ⟨b, off, none⟩) 2 sc) (.slice da dz.length dc) ∧ Rb w2 (w.heap.size + 1) (fun _ _ => false) ∧ Rb w2 b7 (rdP n dz 0) ∧ Below w.heap.size w w2) := by
    show _ ∧ _
    rw [HW2.out, rdP_none, hb7e]
    exact ⟨HA1.out.al _, HG1.out.al _, Rb.new v1 _, HB1.out.alloc HB1.out.size _⟩
  have r2 := HQ2.out.1.c2
  clear HW2 hb7e HA1 HG1 HB1 q1 k0'
  go_wp2_with fail
  clear r2
  go_loopw [23] (fun i wr => ∃ t : Nat, t ≤ dz.length ∧ i = .int .i64 t ∧ Abx wr w.heap.size (.bool false) (.slice (some ⟨b, off, none⟩) 2 sc) (.slice da dz.length dc) ∧ Rb wr (w.heap.size + 1) (fun _ _ => false) ∧ Rb wr b7 (rdP n dz t) ∧ Below w.heap.size w wr) (fun i _ => dz.length - (intOf i).toNat)
  case atStart => exact ⟨0, Nat.zero_le _, rfl, HQ2.out⟩
  case round =>
    clear HQ2
    obtain ⟨t, ht, rfl, hQ⟩ := hrel
    have HQ : Hid (Abx wr w.heap.size (.bool false) (.slice (some ⟨b, off, none⟩) 2 sc) (.slice da dz.length dc) ∧ Rb wr (w.heap.size + 1) (fun _ _ => false) ∧ Rb wr b7 (rdP n dz t) ∧ Below w.heap.size w wr) := hQ
    clear hQ
    by_cases hlt : t < dz.length
    · obtain ⟨bd, od, rfl, hbd, hcd⟩ := (HI.out.2.below HQ.out.2.2.2).at hlt
      have cd := hcd t hlt
      obtain ⟨x, hx⟩ : ∃ x, x = nth dz t := ⟨_, rfl⟩
      rw [← hx] at cd
      obtain ⟨d1, d2, d3⟩ := div_row (n := n) (t := t) (by rw [← HL.out]; exact hlt)
      obtain ⟨P, hP⟩ : ∃ P, P = t / n := ⟨_, rfl⟩
      obtain ⟨R, hR⟩ : ∃ R, R = t % n := ⟨_, rfl⟩
      have HV : Hid (ptr (rdP n dz t) P R (x == 1) = rdP n dz (t + 1)) := by show _ = _; rw [hP, hR, hx]; exact rdP_next (by rw [← HL.out]; exact hlt)
      have n0 : ¬ n = 0 := by omega
      have hq : (t : Int).tdiv (n : Int) = (P : Int) := by rw [hP]; rfl
      have hr : (t : Int).tmod (n : Int) = (R : Int) := by rw [hR]; rfl
      rw [← hP] at d1
      rw [← hR] at d2
      have P6 : P < 24 := by omega
      have hwp : IntKind.i64.wrap (P : Int) = (P : Int) := by rw [IntWalk.i64_left]; exact w_small (by omega) (by omega)
      have R6 : R < 24 := by omega
      have iP : (P : Int) < 24 := by omega
      have iR : (R : Int) < 24 := by omega
      have c3 := HQ.out.2.2.1.cell P6 R6
      have f3 := HQ.out.2.2.1.fr (P * 24 + R)
      clear hx hP hR d1 d2 d3 hcd
      go_wp2_with fail
      refine anyT_begin 9 (fun w' => True) 11 #[false, false, false, false, false, false, false, false, false, false, false] (by kernel_rfl) rfl rfl ?_
      refine anyT_put 0 28 ?rv0 #[true, false, false, false, false, false, false, false, false, false, false] rfl rfl rfl (by kernel_rfl) (by kernel_rfl) (by kernel_rfl) (fun _ _ _ h => h) (by decide) ?ry0 (fun _ => trivial) ?rm0
      case ry0 => first | exact Or.inl ⟨by rfl, by intro w'; go_simp; first | done | rfl⟩
      case rm0 =>
      simp only [Act.put, List.setIfInBounds_toArray, List.set_cons_zero, List.set_cons_succ]
      refine anyT_put 1 29 ?rv1 #[true, true, false, false, false, false, false, false, false, false, false] rfl rfl rfl (by kernel_rfl) (by kernel_rfl) (by kernel_rfl) (fun _ _ _ h => h) (by decide) ?ry1 (fun _ => trivial) ?rm1
      case ry1 => first | exact Or.inl ⟨by rfl, by intro w'; go_simp; first | done | rfl⟩
      case rm1 =>
      simp only [Act.put, List.setIfInBounds_toArray, List.set_cons_zero, List.set_cons_succ]
      refine anyT_put 2 30 ?rv2 #[true, true, true, false, false, false, false, false, false, false, false] rfl rfl rfl (by kernel_rfl) (by kernel_rfl) (by kernel_rfl) (fun _ _ _ h => h) (by decide) ?ry2 (fun _ => trivial) ?rm2
      case ry2 => first | exact Or.inl ⟨by rfl, by intro w'; go_simp; first | done | rfl⟩
      case rm2 =>
      simp only [Act.put, List.setIfInBounds_toArray, List.set_cons_zero, List.set_cons_succ]
      refine anyT_put 3 31 ?rv3 #[true, true, true, true, false, false, false, false, false, false, false] rfl rfl rfl (by kernel_rfl) (by kernel_rfl) (by kernel_rfl) (fun _ _ _ h => h) (by decide) ?ry3 (fun _ => trivial) ?rm3
      case ry3 => first | exact Or.inl ⟨by rfl, by intro w'; go_simp; first | done | rfl⟩
      case rm3 =>
      simp only [Act.put, List.setIfInBounds_toArray, List.set_cons_zero, List.set_cons_succ]
      refine anyT_put 4 32 ?rv4 #[true, true, true, true, true, false, false, false, false, false, false] rfl rfl rfl (by kernel_rfl) (by kernel_rfl) (by kernel_rfl) (fun _ _ _ h => h) (by decide) ?ry4 (fun _ => trivial) ?rm4
      case ry4 => first | exact Or.inl ⟨by rfl, by intro w'; go_simp; first | done | rfl⟩
      case rm4 =>
      simp only [Act.put, List.setIfInBounds_toArray, List.set_cons_zero, List.set_cons_succ]
      refine anyT_put 5 33 ?rv5 #[true, true, true, true, true, true, false, false, false, false, false] rfl rfl rfl (by kernel_rfl) (by kernel_rfl) (by kernel_rfl) (fun _ _ _ h => h) (by decide) ?ry5 (fun _ => trivial) ?rm5
      case ry5 => first | exact Or.inl ⟨by rfl, by intro w'; go_simp; first | done | rfl⟩
      case rm5 =>
      simp only [Act.put, List.setIfInBounds_toArray, List.set_cons_zero, List.set_cons_succ]
      refine anyT_put 6 34 ?rv6 #[true, true, true, true, true, true, true, false, false, false, false] rfl rfl rfl (by kernel_rfl) (by kernel_rfl) (by kernel_rfl) (fun _ _ _ h => h) (by decide) ?ry6 (fun _ => trivial) ?rm6
      case ry6 => first | exact Or.inl ⟨by rfl, by intro w'; go_simp; first | done | rfl⟩
      case rm6 =>
      simp only [Act.put, List.setIfInBounds_toArray, List.set_cons_zero, List.set_cons_succ]
      refine anyT_put 7 35 ?rv7 #[true, true, true, true, true, true, true, true, false, false, false] rfl rfl rfl (by kernel_rfl) (by kernel_rfl) (by kernel_rfl) (fun _ _ _ h => h) (by decide) ?ry7 (fun _ => trivial) ?rm7
      case ry7 => first | exact Or.inl ⟨by rfl, by intro w'; go_simp; first | done | rfl⟩
      case rm7 =>
      simp only [Act.put, List.setIfInBounds_toArray, List.set_cons_zero, List.set_cons_succ]
      refine anyT_put 8 36 ?rv8 #[true, true, true, true, true, true, true, true, true, false, false] rfl rfl rfl (by kernel_rfl) (by kernel_rfl) (by kernel_rfl) (fun _ _ _ h => h) (by decide) ?ry8 (fun _ => trivial) ?rm8
      case ry8 => first | exact Or.inl ⟨by rfl, by intro w'; go_simp; first | done | rfl⟩
      case rm8 =>
      simp only [Act.put, List.setIfInBounds_toArray, List.set_cons_zero, List.set_cons_succ]
      refine anyT_one 9 #[true, true, true, true, true, true, true, true, true, true, false] (by kernel_rfl) rfl rfl (fun K hK => ?_)
      go_simp
      refine hK.out _ _ (fun h => absurd h (by decide)) ?_
      clear hK K
      refine anyT_one 10 #[true, true, true, true, true, true, true, true, true, true, true] (by kernel_rfl) rfl rfl (fun K hK => ?_)
      go_simp
      refine hK.out _ _ (fun h => absurd h (by decide)) ?_
      clear hK K
      refine anyT_done (by kernel_rfl) ?_
      obtain ⟨w6, HW6⟩ : ∃ w6, Hid (w6 = (wr.setCell ⟨b7, P * 24 + R, none⟩ (.bool (x == 1))).drew) := ⟨_, rfl⟩
      rw [← HW6.out]
      have HQ6 : Hid (Abx w6 w.heap.size (.bool false) (.slice (some ⟨b, off, none⟩) 2 sc) (.slice (some ⟨bd, od, none⟩) dz.length dc) ∧ Rb w6 (w.heap.size + 1) (fun _ _ => false) ∧ Rb w6 b7 (rdP n dz (t + 1)) ∧ Below w.heap.size w w6) := by
        show _ ∧ _
        rw [HW6.out, ← HV.out]
        exact ⟨(HQ.out.1.ot (by show w.heap.size ≠ b7; omega) _).dr, (HQ.out.2.1.ot (by show w.heap.size + 1 ≠ b7; omega) _).dr, (HQ.out.2.2.1.put P6 R6 _).dr, (HQ.out.2.2.2.setCell (p := ⟨b7, P * 24 + R, none⟩) (by show w.heap.size ≤ b7; omega) _).drew⟩
      clear HW6 HQ HV c3 f3 cd hq hr hwp
      go_wp2_with fail
      exact ⟨⟨t + 1, by omega, by go_num, HQ6.out⟩, by simp [intOf]; omega⟩
    · obtain rfl : t = dz.length := by omega
      have HL2 : Hid (Rb wr b7 (rdR n dz)) := by rw [← rdP_all HL.out]; exact HQ.out.2.2.1
      go_wp2_with (first | refine wpl_ldr b7 (rdR n dz) _ HL2.out rfl rfl rfl ?_ | refine wpl_str (w.heap.size + 1) _ (rdR n dz) _ _ HQ.out.2.1 rfl rfl rfl rfl rfl ?_)
      exact bodyPost_ret (v := .tuple #[.agg (ofr (rdR n dz)), .int .i64 (n : Nat), .nilIface]) (res_r3 rfl _ _ (w.heap.size + 1) _ _ _ rfl HQ.out.2.1.row rfl rfl) rfl ⟨rfl, bel_rw HQ.out.2.2.2 (by omega)⟩
end Go.Proofs.YtgaelbgeoobgiabDoor
