/-
  The program's matrices: read from an array, and told as one.
-/
import Derived.Deep.DeepCutAuto
import Derived.Test.YtjaabemlpiafaaaDoorMgi
import Derived.Test.YtjaabemlpiafaaaDoorMidc
namespace Go.Proofs.YtjaabemlpiafaaaDoor
open Go.RowKit
set_option linter.unusedVariables false

theorem results_g3 {fn : Func} {p u v : Tmp} {ty : TypeId} (h : fn.results = #[.cell p ty, .tmp u, .tmp v]) (tmps : Array Value) (P : Program) (w : World) :
    (results fn tmps).run P w = ((asAddr (tmps.getD p undef)).run P w).andThen fun a w₁ => ((loadVar ty a).run P w₁).andThen fun x w₂ => .ok (.tuple #[x, tmps.getD u undef, tmps.getD v undef]) w₂ := by
  simp only [results, h]
  simp [Sem.run_bind, Result.andThen]
theorem res_g3 {fn : Func} {p u v : Tmp} (h : fn.results = #[.cell p 52, .tmp u, .tmp v]) (tmps : Array Value) (w : World) (b : Nat) (A : Mx) (x y : Value) (hp : tmps.getD p undef = .pointer (some ⟨b, 0, none⟩)) (hg : Gb w b A) (hx : tmps.getD u undef = x) (hy : tmps.getD v undef = y) :
    (results fn tmps).run Tryd.prog w = .ok (.tuple #[.agg (ofg A), x, y]) w := by
  rw [results_g3 h, hp, hx, hy]
  simp [asAddr, Result.andThen, ldg hg]
/-- Row by row, so far. -/
def rdp (n : Nat) (dz : List Int) (t : Nat) : Mx := fun a b => if a < n ∧ b < n ∧ a * n + b < t then nth dz (a * n + b) else 0
/-- The matrix of n rows that a list is. -/
def rdg (n : Nat) (dz : List Int) : Mx := fun a b => if a < n ∧ b < n then nth dz (a * n + b) else 0
section
variable {n a b t : Nat} {dz : List Int}
theorem row_div (hb : b < n) : (a * n + b) / n = a := by rw [Nat.mul_comm, Nat.mul_add_div (by omega), Nat.div_eq_of_lt hb, Nat.add_zero]
theorem row_mod (hb : b < n) : (a * n + b) % n = b := by rw [Nat.mul_comm, Nat.mul_add_mod, Nat.mod_eq_of_lt hb]
theorem row_lt (ha : a < n) (hb : b < n) : a * n + b < n * n := by
  have : a * n + n ≤ n * n := by rw [← Nat.succ_mul]; exact Nat.mul_le_mul_right n ha
  omega
theorem div_row (h : t < n * n) : t / n < n ∧ t % n < n ∧ t / n * n + t % n = t := by
  have hn : 0 < n := by
    rcases Nat.eq_zero_or_pos n with h0 | h0
    · rw [h0] at h; omega
    · exact h0
  exact ⟨Nat.div_lt_of_lt_mul h, Nat.mod_lt _ hn, by rw [Nat.mul_comm]; exact Nat.div_add_mod t n⟩
theorem rdp_next (h : t < n * n) : ptg (rdp n dz t) (t / n) (t % n) (nth dz t) = rdp n dz (t + 1) := by
  obtain ⟨h1, h2, h3⟩ := div_row h
  funext a b
  unfold ptg rdp
  by_cases e : a = t / n ∧ b = t % n
  · rw [if_pos e, e.1, e.2, h3, if_pos ⟨h1, h2, by omega⟩]
  · rw [if_neg e]
    by_cases h2 : a < n ∧ b < n ∧ a * n + b < t
    · rw [if_pos h2, if_pos ⟨h2.1, h2.2.1, by omega⟩]
    · rw [if_neg h2, if_neg]
      rintro ⟨q1, q2, q3⟩
      have h4 : a * n + b = t := by
        rcases Nat.lt_or_ge (a * n + b) t with h5 | h5
        · exact absurd ⟨q1, q2, h5⟩ h2
        · omega
      exact e ⟨by rw [← h4, row_div q2], by rw [← h4, row_mod q2]⟩
theorem rdp_all (h : dz.length = n * n) : rdp n dz dz.length = rdg n dz := by
  funext a b
  unfold rdp rdg
  by_cases e : a < n ∧ b < n
  · rw [if_pos e, if_pos ⟨e.1, e.2, by rw [h]; exact row_lt e.1 e.2⟩]
  · rw [if_neg e, if_neg (fun q => e ⟨q.1, q.2.1⟩)]
theorem rdp_none : rdp n dz 0 = fun _ _ => 0 := by
  funext a b
  unfold rdp
  rw [if_neg (fun q => absurd q.2.2 (Nat.not_lt_zero _))]
end
set_option maxRecDepth 100000 in
set_option maxHeartbeats 2000000 in
theorem read_no (c : Bool) (sa : Option Addr) (sc : Nat) (sz : List Int) (da : Option Addr) (dc : Nat) (dz : List Int) (w : World) (h1 : sz.length ≤ 9223372036854775807) (h2 : dz.length ≤ 9223372036854775807) (hs : IsInts w.heap.size w sa sz) (hd : IsInts w.heap.size w da dz) (h : mxE c sz dz ≠ 0) :
    Calls Tryd.prog 25 #[.agg #[.bool c, .slice sa sz.length sc, .slice da dz.length dc]] w fun e w' => e = .returned (.tuple #[.agg (ofg fun _ _ => 0), .int .i64 0, .iface 25 (.int .i64 (mxE c sz dz))]) ∧ Below w.heap.size w w' := by
  obtain ⟨w0, HW⟩ : ∃ w0, Hid (w0 = (w.alloc (.cells #[.bool c, .slice sa sz.length sc, .slice da dz.length dc] 24)).alloc (.cells (ofg fun _ _ => 0) 52)) := ⟨_, rfl⟩
  have HB0 : Hid (Below w.heap.size w w0) := by rw [HW.out]; exact ((Below.refl _ w).alloc (Nat.le_refl _) _).alloc (by simp) _
  have HA : Hid (Abx w0 w.heap.size (.bool c) (.slice sa sz.length sc) (.slice da dz.length dc)) := by rw [HW.out]; exact (Abx.new w _ _ _).al _
  have HG : Hid (Gb w0 (w.heap.size + 1) fun _ _ => 0) := by rw [HW.out]; have := Gb.new (w.alloc (.cells #[.bool c, .slice sa sz.length sc, .slice da dz.length dc] 24)) fun _ _ => 0; rwa [World.size_alloc] at this
  have hC := mcheck_any c sa sc sz da dc dz w0 h1 h2 ((hs.below HB0.out).mono HB0.out.size) ((hd.below HB0.out).mono HB0.out.size)
  rw [errV_pos h] at hC
  have p0 := HA.out.c0
  have p1 := HA.out.c1
  have p2 := HA.out.c2
  clear hs hd h
  go_enter Tryd.func25, Tryd.ntmps25
  go_upto_region 1 with fail
  rw [ofg_zero, ← HW.out]
  go_wp2_with fail
  refine hC.mono ?_
  rintro e v1 ⟨rfl, hB⟩
  have HB1 : Hid (Below w.heap.size w v1) := HB0.out.trans (hB.mono HB0.out.size)
  have HG1 : Hid (Gb v1 (w.heap.size + 1) fun _ _ => 0) := HG.out.go hB
  clear p0 p1 p2 HA HG HW HB0 hC hB
  go_wp2_with (refine wpl_stg (w.heap.size + 1) _ (fun _ _ => 0) _ _ HG1.out rfl rfl rfl rfl rfl ?_)
  exact bodyPost_ret (v := .tuple #[.agg (ofg fun _ _ => 0), .int .i64 0, .iface 25 (.int .i64 (mxE c sz dz))]) (res_g3 rfl _ _ (w.heap.size + 1) _ _ _ rfl HG1.out.row rfl rfl) rfl ⟨rfl, bel_row HB1.out (by omega)⟩
set_option maxRecDepth 100000 in
set_option maxHeartbeats 2000000 in
theorem read_ok (n : Nat) (hn : n ≤ 6) (sa : Option Addr) (sc : Nat) (da : Option Addr) (dc : Nat) (dz : List Int) (hl : dz.length = n * n) (w : World) (hs : IsInts w.heap.size w sa [(n : Int), (n : Int)]) (hd : IsInts w.heap.size w da dz) :
    Calls Tryd.prog 25 #[.agg #[.bool false, .slice sa 2 sc, .slice da dz.length dc]] w fun e w' => e = .returned (.tuple #[.agg (ofg (rdg n dz)), .int .i64 (n : Nat), .nilIface]) ∧ Below w.heap.size w w' := by
  obtain ⟨w0, HW⟩ : ∃ w0, Hid (w0 = (w.alloc (.cells #[.bool false, .slice sa 2 sc, .slice da dz.length dc] 24)).alloc (.cells (ofg fun _ _ => 0) 52)) := ⟨_, rfl⟩
  have HB0 : Hid (Below w.heap.size w w0) := by rw [HW.out]; exact ((Below.refl _ w).alloc (Nat.le_refl _) _).alloc (by simp) _
  have HA : Hid (Abx w0 w.heap.size (.bool false) (.slice sa 2 sc) (.slice da dz.length dc)) := by rw [HW.out]; exact (Abx.new w _ _ _).al _
  have HG : Hid (Gb w0 (w.heap.size + 1) fun _ _ => 0) := by rw [HW.out]; have := Gb.new (w.alloc (.cells #[.bool false, .slice sa 2 sc, .slice da dz.length dc] 24)) fun _ _ => 0; rwa [World.size_alloc] at this
  have h36 : dz.length ≤ 36 := by have : n * n ≤ 6 * 6 := Nat.mul_le_mul hn hn; omega
  have hC := mcheck_any false sa sc [(n : Int), (n : Int)] da dc dz w0 (by simp) (by omega) ((hs.below HB0.out).mono HB0.out.size) ((hd.below HB0.out).mono HB0.out.size)
  rw [mx_of n hn dz hl, errV_zero] at hC
  have HI : Hid (IsInts w.heap.size w sa [(n : Int), (n : Int)] ∧ IsInts w.heap.size w da dz) := ⟨hs, hd⟩
  have HL : Hid (dz.length = n * n) := hl
  have p0 := HA.out.c0
  have p1 := HA.out.c1
  have p2 := HA.out.c2
  clear hs hd hl
  go_enter Tryd.func25, Tryd.ntmps25
  go_upto_region 1 with fail
  rw [ofg_zero, ← HW.out]
  go_wp2_with fail
  refine hC.mono ?_
  rintro e v1 ⟨rfl, hB⟩
  have HB1 : Hid (Below w.heap.size w v1) := HB0.out.trans (hB.mono HB0.out.size)
  have HG1 : Hid (Gb v1 (w.heap.size + 1) fun _ _ => 0) := HG.out.go hB
  have HA1 : Hid (Abx v1 w.heap.size (.bool false) (.slice sa 2 sc) (.slice da dz.length dc)) := HA.out.go hB
  obtain ⟨b, off, hab, hb, hc⟩ := (HI.out.1.below HB1.out).at (q := 0) (by simp)
  subst hab
  have k0 := hc 0 (by simp)
  rw [Nat.add_zero] at k0
  have k0' : v1.cell? ⟨b, off, none⟩ = some (.int .i64 (n : Int)) := k0
  have q1 := HA1.out.c1
  have hb7 : w.heap.size + 1 + 1 ≤ v1.heap.size := by have := HG1.out.lt; omega
  clear p0 p1 p2 HA HG HW HB0 hC hB hc k0
  go_upto_region 6 with fail
  obtain ⟨w2, HW2⟩ : ∃ w2, Hid (w2 = v1.alloc (.cells (ofg fun _ _ => 0) 52)) := ⟨_, rfl⟩
  rw [ofg_zero, ← HW2.out]
  obtain ⟨b7, hb7e⟩ : ∃ b, b = v1.heap.size := ⟨_, rfl⟩
  rw [← hb7e] at hb7 ⊢
  have HQ2 : Hid (Abx w2 w.heap.size (.bool false) (.slice (some ⟨b, off, none⟩) 2 sc) (.slice da dz.length dc) ∧ Gb w2 (w.heap.size + 1) (fun _ _ => 0) ∧ Gb w2 b7 (rdp n dz 0) ∧ Below w.heap.size w w2) := by
    show _ ∧ _
    rw [HW2.out, rdp_none, hb7e]
    exact ⟨HA1.out.al _, HG1.out.al _, Gb.new v1 _, HB1.out.alloc HB1.out.size _⟩
  have r2 := HQ2.out.1.c2
  clear HW2 hb7e HA1 HG1 HB1 q1 k0'
  go_wp2_with fail
  clear r2
  go_loopw [23] (fun i wr => ∃ t : Nat, t ≤ dz.length ∧ i = .int .i64 t ∧ Abx wr w.heap.size (.bool false) (.slice (some ⟨b, off, none⟩) 2 sc) (.slice da dz.length dc) ∧ Gb wr (w.heap.size + 1) (fun _ _ => 0) ∧ Gb wr b7 (rdp n dz t) ∧ Below w.heap.size w wr) (fun i _ => dz.length - (intOf i).toNat)
  case atStart => exact ⟨0, Nat.zero_le _, rfl, HQ2.out⟩
  case round =>
    clear HQ2
    obtain ⟨t, ht, rfl, hQ⟩ := hrel
    have HQ : Hid (Abx wr w.heap.size (.bool false) (.slice (some ⟨b, off, none⟩) 2 sc) (.slice da dz.length dc) ∧ Gb wr (w.heap.size + 1) (fun _ _ => 0) ∧ Gb wr b7 (rdp n dz t) ∧ Below w.heap.size w wr) := hQ
    clear hQ
    by_cases hlt : t < dz.length
    · obtain ⟨bd, od, rfl, hbd, hcd⟩ := (HI.out.2.below HQ.out.2.2.2).at hlt
      have cd := hcd t hlt
      obtain ⟨x, hx⟩ : ∃ x, x = nth dz t := ⟨_, rfl⟩
      rw [← hx] at cd
      obtain ⟨d1, d2, d3⟩ := div_row (n := n) (t := t) (by rw [← HL.out]; exact hlt)
      obtain ⟨P, hP⟩ : ∃ P, P = t / n := ⟨_, rfl⟩
      obtain ⟨R, hR⟩ : ∃ R, R = t % n := ⟨_, rfl⟩
      have HV : Hid (ptg (rdp n dz t) P R x = rdp n dz (t + 1)) := by show _ = _; rw [hP, hR, hx]; exact rdp_next (by rw [← HL.out]; exact hlt)
      have n0 : ¬ n = 0 := by omega
      have hq : (t : Int).tdiv (n : Int) = (P : Int) := by rw [hP]; rfl
      have hr : (t : Int).tmod (n : Int) = (R : Int) := by rw [hR]; rfl
      rw [← hP] at d1
      rw [← hR] at d2
      have P6 : P < 6 := by omega
      have hwp : IntKind.i64.wrap (P : Int) = (P : Int) := by rw [IntWalk.i64_left]; exact w_small (by omega) (by omega)
      have R6 : R < 6 := by omega
      have iP : (P : Int) < 6 := by omega
      have iR : (R : Int) < 6 := by omega
      have c3 := HQ.out.2.2.1.cell P6 R6
      have f3 := HQ.out.2.2.1.fr (P * 6 + R)
      clear hx hP hR d1 d2 d3 hcd
      go_wp2_with fail
      refine anyT_begin 8 (fun w' => True) 10 #[false, false, false, false, false, false, false, false, false, false] (by kernel_rfl) rfl rfl ?_
      refine anyT_put 0 28 ?rv0 #[true, false, false, false, false, false, false, false, false, false] rfl rfl rfl (by kernel_rfl) (by kernel_rfl) (by kernel_rfl) (fun _ _ _ h => h) (by decide) ?ry0 (fun _ => trivial) ?rm0
      case ry0 => first | exact Or.inl ⟨by rfl, by intro w'; go_simp; first | done | rfl⟩
      case rm0 =>
      simp only [Act.put, List.setIfInBounds_toArray, List.set_cons_zero, List.set_cons_succ]
      refine anyT_put 1 29 ?rv1 #[true, true, false, false, false, false, false, false, false, false] rfl rfl rfl (by kernel_rfl) (by kernel_rfl) (by kernel_rfl) (fun _ _ _ h => h) (by decide) ?ry1 (fun _ => trivial) ?rm1
      case ry1 => first | exact Or.inl ⟨by rfl, by intro w'; go_simp; first | done | rfl⟩
      case rm1 =>
      simp only [Act.put, List.setIfInBounds_toArray, List.set_cons_zero, List.set_cons_succ]
      refine anyT_put 2 30 ?rv2 #[true, true, true, false, false, false, false, false, false, false] rfl rfl rfl (by kernel_rfl) (by kernel_rfl) (by kernel_rfl) (fun _ _ _ h => h) (by decide) ?ry2 (fun _ => trivial) ?rm2
      case ry2 => first | exact Or.inl ⟨by rfl, by intro w'; go_simp; first | done | rfl⟩
      case rm2 =>
      simp only [Act.put, List.setIfInBounds_toArray, List.set_cons_zero, List.set_cons_succ]
      refine anyT_put 3 31 ?rv3 #[true, true, true, true, false, false, false, false, false, false] rfl rfl rfl (by kernel_rfl) (by kernel_rfl) (by kernel_rfl) (fun _ _ _ h => h) (by decide) ?ry3 (fun _ => trivial) ?rm3
      case ry3 => first | exact Or.inl ⟨by rfl, by intro w'; go_simp; first | done | rfl⟩
      case rm3 =>
      simp only [Act.put, List.setIfInBounds_toArray, List.set_cons_zero, List.set_cons_succ]
      refine anyT_put 4 32 ?rv4 #[true, true, true, true, true, false, false, false, false, false] rfl rfl rfl (by kernel_rfl) (by kernel_rfl) (by kernel_rfl) (fun _ _ _ h => h) (by decide) ?ry4 (fun _ => trivial) ?rm4
      case ry4 => first | exact Or.inl ⟨by rfl, by intro w'; go_simp; first | done | rfl⟩
      case rm4 =>
      simp only [Act.put, List.setIfInBounds_toArray, List.set_cons_zero, List.set_cons_succ]
      refine anyT_put 5 33 ?rv5 #[true, true, true, true, true, true, false, false, false, false] rfl rfl rfl (by kernel_rfl) (by kernel_rfl) (by kernel_rfl) (fun _ _ _ h => h) (by decide) ?ry5 (fun _ => trivial) ?rm5
      case ry5 => first | exact Or.inl ⟨by rfl, by intro w'; go_simp; first | done | rfl⟩
      case rm5 =>
      simp only [Act.put, List.setIfInBounds_toArray, List.set_cons_zero, List.set_cons_succ]
      refine anyT_put 6 34 ?rv6 #[true, true, true, true, true, true, true, false, false, false] rfl rfl rfl (by kernel_rfl) (by kernel_rfl) (by kernel_rfl) (fun _ _ _ h => h) (by decide) ?ry6 (fun _ => trivial) ?rm6
      case ry6 => first | exact Or.inl ⟨by rfl, by intro w'; go_simp; first | done | rfl⟩
      case rm6 =>
      simp only [Act.put, List.setIfInBounds_toArray, List.set_cons_zero, List.set_cons_succ]
      refine anyT_put 7 35 ?rv7 #[true, true, true, true, true, true, true, true, false, false] rfl rfl rfl (by kernel_rfl) (by kernel_rfl) (by kernel_rfl) (fun _ _ _ h => h) (by decide) ?ry7 (fun _ => trivial) ?rm7
      case ry7 => first | exact Or.inl ⟨by rfl, by intro w'; go_simp; first | done | rfl⟩
      case rm7 =>
      simp only [Act.put, List.setIfInBounds_toArray, List.set_cons_zero, List.set_cons_succ]
      refine anyT_one 8 #[true, true, true, true, true, true, true, true, true, false] (by kernel_rfl) rfl rfl (fun K hK => ?_)
      go_simp
      refine hK.out _ _ (fun h => absurd h (by decide)) ?_
      clear hK K
      refine anyT_one 9 #[true, true, true, true, true, true, true, true, true, true] (by kernel_rfl) rfl rfl (fun K hK => ?_)
      go_simp
      refine hK.out _ _ (fun h => absurd h (by decide)) ?_
      clear hK K
      refine anyT_done (by kernel_rfl) ?_
      obtain ⟨w6, HW6⟩ : ∃ w6, Hid (w6 = (wr.setCell ⟨b7, P * 6 + R, none⟩ (.int .i64 x)).drew) := ⟨_, rfl⟩
      rw [← HW6.out]
      have HQ6 : Hid (Abx w6 w.heap.size (.bool false) (.slice (some ⟨b, off, none⟩) 2 sc) (.slice (some ⟨bd, od, none⟩) dz.length dc) ∧ Gb w6 (w.heap.size + 1) (fun _ _ => 0) ∧ Gb w6 b7 (rdp n dz (t + 1)) ∧ Below w.heap.size w w6) := by
        show _ ∧ _
        rw [HW6.out, ← HV.out]
        exact ⟨(HQ.out.1.ot (by show w.heap.size ≠ b7; omega) _).dr, (HQ.out.2.1.ot (by show w.heap.size + 1 ≠ b7; omega) _).dr, (HQ.out.2.2.1.put P6 R6 _).dr, (HQ.out.2.2.2.setCell (p := ⟨b7, P * 6 + R, none⟩) (by show w.heap.size ≤ b7; omega) _).drew⟩
      clear HW6 HQ HV c3 f3 cd hq hr hwp
      go_wp2_with fail
      exact ⟨⟨t + 1, by omega, by go_num, HQ6.out⟩, by simp [intOf]; omega⟩
    · obtain rfl : t = dz.length := by omega
      have HL2 : Hid (Gb wr b7 (rdg n dz)) := by rw [← rdp_all HL.out]; exact HQ.out.2.2.1
      go_wp2_with (first | refine wpl_ldg b7 (rdg n dz) _ HL2.out rfl rfl rfl ?_ | refine wpl_stg (w.heap.size + 1) _ (rdg n dz) _ _ HQ.out.2.1 rfl rfl rfl rfl rfl ?_)
      exact bodyPost_ret (v := .tuple #[.agg (ofg (rdg n dz)), .int .i64 (n : Nat), .nilIface]) (res_g3 rfl _ _ (w.heap.size + 1) _ _ _ rfl HQ.out.2.1.row rfl rfl) rfl ⟨rfl, bel_row HQ.out.2.2.2 (by omega)⟩
/-- The cells of n rows. -/
def cls (n : Nat) (A : Mx) : List Int := (List.range (n * n)).map fun p => A (p / n) (p % n)
theorem cls_len (n : Nat) (A : Mx) : (cls n A).length = n * n := by simp [cls]
theorem cls_nth {n p : Nat} (A : Mx) (h : p < n * n) : nth (cls n A) p = A (p / n) (p % n) := by
  rw [nth_get _ _ (by rw [cls_len]; exact h)]
  simp [cls]
theorem cls_at {n i j : Nat} (A : Mx) (hi : i < n) (hj : j < n) : nth (cls n A) (i * n + j) = A i j := by rw [cls_nth A (row_lt hi hj), row_div hj, row_mod hj]
theorem cls_congr {n : Nat} {A B : Mx} (h : ∀ i, i < n → ∀ j, j < n → A i j = B i j) : cls n A = cls n B := by
  unfold cls
  refine List.map_congr_left fun p hp => ?_
  have := div_row (n := n) (t := p) (by simpa using hp)
  exact h _ this.1 _ this.2.1
theorem cls_rdg {n : Nat} {dz : List Int} (h : dz.length = n * n) : cls n (rdg n dz) = dz := by
  refine List.ext_getElem (by rw [cls_len, h]) fun p h1 h2 => ?_
  rw [← nth_get _ _ h1, ← nth_get _ _ h2, cls_nth _ (by omega)]
  have := div_row (n := n) (t := p) (by omega)
  unfold rdg
  rw [if_pos ⟨this.1, this.2.1⟩, this.2.2]
/-- A list that is filled, so far. -/
def fil (D : List Int) (t : Nat) : List Int := D.take t ++ List.replicate (D.length - t) 0
theorem fil_zero (D : List Int) : fil D 0 = List.replicate D.length 0 := by simp [fil]
theorem fil_all (D : List Int) : fil D D.length = D := by simp [fil]
theorem fil_len (D : List Int) {t : Nat} (h : t ≤ D.length) : (fil D t).length = D.length := by simp [fil]; omega
theorem fil_next {D : List Int} {t : Nat} (h : t < D.length) : (fil D t).set t (nth D t) = fil D (t + 1) := by
  unfold fil
  rw [List.set_append_right _ _ (by simp; omega), take_snoc D t h, List.append_assoc]
  congr 1
  rw [show t - (D.take t).length = 0 by simp; omega, show D.length - t = (D.length - (t + 1)) + 1 by omega, List.replicate_succ]
  rfl
theorem MidC.newc {lo hi lo' : Nat} {W : World} {a : Option Addr} {zs : List Int} {cap : Nat} (h : MidC lo hi W a zs cap) (hh : hi ≤ W.heap.size) (hl : lo' ≤ lo) : NewC lo' W a zs cap := ⟨(h.1.new hh).low hl, h.2⟩
/-- An array of n rows. -/
def AnP (n : Nat) (D : List Int) (w : World) (r : Ending) (w' : World) : Prop :=
  ∃ xa ya, r = .returned (.agg #[.bool false, .slice xa 2 2, .slice ya D.length D.length]) ∧ NewC w.heap.size w' xa [(n : Int), (n : Int)] 2 ∧ NewC w.heap.size w' ya D D.length ∧ Below w.heap.size w w'
set_option maxRecDepth 100000 in
set_option maxHeartbeats 2000000 in
theorem array_any (n : Nat) (hn : n ≤ 6) (A : Mx) (w : World) :
    Calls Tryd.prog 32 #[.agg (ofg A), .int .i64 (n : Nat)] w (AnP n (cls n A) w) := by
  obtain ⟨D, hD⟩ : ∃ D, D = cls n A := ⟨_, rfl⟩
  obtain ⟨N, hN⟩ : ∃ N, N = n * n := ⟨_, rfl⟩
  have h36 : N ≤ 36 := by have : n * n ≤ 6 * 6 := Nat.mul_le_mul hn hn; omega
  have hmul : (n : Int) * (n : Int) = (N : Int) := by rw [hN]; simp
  have HN : Hid (N = n * n ∧ D.length = N ∧ ∀ p, p < N → nth D p = A (p / n) (p % n)) := ⟨hN, by rw [hD, cls_len, hN], fun p hp => by rw [hD]; exact cls_nth A (by omega)⟩
  rw [← hD]
  clear hN hD
  have hmk := run_make_row' (P := Tryd.prog) 22 3 (.int .i64 0) 8 Tryd.underlying22 Tryd.infoInt rfl .i64 .i64 N (by omega) (by omega)
  go_enter Tryd.func32, Tryd.ntmps32
  go_wp2_with fail
  obtain ⟨w0, HW⟩ : ∃ w0, Hid (w0 = ((w.alloc (.cells (ofg A) 52)).alloc (.cells #[.bool false, .slice none 0 0, .slice none 0 0] 24)).alloc (.cells (madeCells #[.int .i64 0] N) 3)) := ⟨_, rfl⟩
  rw [← HW.out]
  have HQ0 : Hid (Gb w0 w.heap.size A ∧ Abx w0 (w.heap.size + 1) (.bool false) (.slice none 0 0) (.slice none 0 0) ∧ MidC (w.heap.size + 1 + 1) (w.heap.size + 1 + 1 + 1) w0 (some ⟨w.heap.size + 1 + 1, 0, none⟩) (fil D 0) N ∧ Below w.heap.size w w0 ∧ w.heap.size + 1 + 1 + 1 ≤ w0.heap.size) := by
    show _ ∧ _
    rw [HW.out, fil_zero, HN.out.2.1]
    have h3 := zer_mid ((w.alloc (.cells (ofg A) 52)).alloc (.cells #[.bool false, .slice none 0 0, .slice none 0 0] 24)) 3 N
    simp only [World.size_alloc] at h3
    exact ⟨((Gb.new w A).al _).al _, (Abx.new1 w _ _ _ _).al _, h3, (((Below.refl _ w).alloc (Nat.le_refl _) _).alloc (by simp) _).alloc (by simp; omega) _, by simp⟩
  clear hmk HW
  go_loopw [13] (fun i wr => ∃ t : Nat, t ≤ N ∧ i = .int .i64 t ∧ Gb wr w.heap.size A ∧ Abx wr (w.heap.size + 1) (.bool false) (.slice none 0 0) (.slice none 0 0) ∧ MidC (w.heap.size + 1 + 1) (w.heap.size + 1 + 1 + 1) wr (some ⟨w.heap.size + 1 + 1, 0, none⟩) (fil D t) N ∧ Below w.heap.size w wr ∧ w.heap.size + 1 + 1 + 1 ≤ wr.heap.size) (fun i _ => N - (intOf i).toNat)
  case atStart => exact ⟨0, Nat.zero_le _, rfl, HQ0.out⟩
  case round =>
    clear HQ0
    obtain ⟨t, ht, rfl, hQ⟩ := hrel
    have HQ : Hid (Gb wr w.heap.size A ∧ Abx wr (w.heap.size + 1) (.bool false) (.slice none 0 0) (.slice none 0 0) ∧ MidC (w.heap.size + 1 + 1) (w.heap.size + 1 + 1 + 1) wr (some ⟨w.heap.size + 1 + 1, 0, none⟩) (fil D t) N ∧ Below w.heap.size w wr ∧ w.heap.size + 1 + 1 + 1 ≤ wr.heap.size) := hQ
    clear hQ
    by_cases hlt : t < N
    · obtain ⟨d1, d2, d3⟩ := div_row (n := n) (t := t) (by rw [← HN.out.1]; exact hlt)
      obtain ⟨P, hP⟩ : ∃ P, P = t / n := ⟨_, rfl⟩
      obtain ⟨R, hR⟩ : ∃ R, R = t % n := ⟨_, rfl⟩
      have n0 : ¬ n = 0 := by omega
      have hq : (t : Int).tdiv (n : Int) = (P : Int) := by rw [hP]; rfl
      have hr : (t : Int).tmod (n : Int) = (R : Int) := by rw [hR]; rfl
      have HV : Hid (nth D t = A P R) := by show _ = _; rw [HN.out.2.2 t hlt, hP, hR]
      rw [← hP] at d1
      rw [← hR] at d2
      have P6 : P < 6 := by omega
      have hwp : IntKind.i64.wrap (P : Int) = (P : Int) := by rw [IntWalk.i64_left]; exact w_small (by omega) (by omega)
      have R6 : R < 6 := by omega
      have iP : (P : Int) < 6 := by omega
      have iR : (R : Int) < 6 := by omega
      have c1 := HQ.out.1.cell P6 R6
      have hfl : t < (fil D t).length := by rw [fil_len D (by rw [HN.out.2.1]; omega), HN.out.2.1]; exact hlt
      have HFL : Hid (t < (fil D t).length) := hfl
      obtain ⟨b', o', hbo, _, _, c3, f3⟩ := HQ.out.2.2.1.at hfl
      cases hbo
      rw [Nat.zero_add] at c3 f3
      clear hP hR d1 d2 d3 hfl
      go_wp2_with fail
      refine anyT_begin 11 (fun w' => w'.cell? ⟨w.heap.size, P * 6 + R, none⟩ = some (.int .i64 (A P R))) 13 #[false, false, false, false, false, false, false, false, false, false, false, false, false] (by kernel_rfl) rfl rfl ?_
      refine anyT_put 0 16 ?rv10 #[true, false, false, false, false, false, false, false, false, false, false, false, false] rfl rfl rfl (by kernel_rfl) (by kernel_rfl) (by kernel_rfl) (fun _ _ _ h => h) (by decide) ?ry10 (fun _ => c1) ?rm10
      case ry10 => first | exact Or.inl ⟨by rfl, by intro w'; go_simp; first | done | rfl⟩
      case rm10 =>
      simp only [Act.put, List.setIfInBounds_toArray, List.set_cons_zero, List.set_cons_succ]
      refine anyT_put 1 17 ?rv11 #[true, true, false, false, false, false, false, false, false, false, false, false, false] rfl rfl rfl (by kernel_rfl) (by kernel_rfl) (by kernel_rfl) (fun _ _ _ h => h) (by decide) ?ry11 (fun _ => c1) ?rm11
      case ry11 => first | exact Or.inl ⟨by rfl, by intro w'; go_simp; first | done | rfl⟩
      case rm11 =>
      simp only [Act.put, List.setIfInBounds_toArray, List.set_cons_zero, List.set_cons_succ]
      refine anyT_put 2 18 ?rv12 #[true, true, true, false, false, false, false, false, false, false, false, false, false] rfl rfl rfl (by kernel_rfl) (by kernel_rfl) (by kernel_rfl) (fun _ _ _ h => h) (by decide) ?ry12 (fun _ => c1) ?rm12
      case ry12 => first | exact Or.inl ⟨by rfl, by intro w'; go_simp; first | done | rfl⟩
      case rm12 =>
      simp only [Act.put, List.setIfInBounds_toArray, List.set_cons_zero, List.set_cons_succ]
      refine anyT_put 3 19 ?rv13 #[true, true, true, true, false, false, false, false, false, false, false, false, false] rfl rfl rfl (by kernel_rfl) (by kernel_rfl) (by kernel_rfl) (fun _ _ _ h => h) (by decide) ?ry13 (fun _ => c1) ?rm13
      case ry13 => first | exact Or.inl ⟨by rfl, by intro w'; go_simp; first | done | rfl⟩
      case rm13 =>
      simp only [Act.put, List.setIfInBounds_toArray, List.set_cons_zero, List.set_cons_succ]
      refine anyT_put 4 20 ?rv14 #[true, true, true, true, true, false, false, false, false, false, false, false, false] rfl rfl rfl (by kernel_rfl) (by kernel_rfl) (by kernel_rfl) (fun _ _ _ h => h) (by decide) ?ry14 (fun _ => c1) ?rm14
      case ry14 => first | exact Or.inl ⟨by rfl, by intro w'; go_simp; first | done | rfl⟩
      case rm14 =>
      simp only [Act.put, List.setIfInBounds_toArray, List.set_cons_zero, List.set_cons_succ]
      refine anyT_put 5 21 ?rv15 #[true, true, true, true, true, true, false, false, false, false, false, false, false] rfl rfl rfl (by kernel_rfl) (by kernel_rfl) (by kernel_rfl) (fun _ _ _ h => h) (by decide) ?ry15 (fun _ => c1) ?rm15
      case ry15 => first | exact Or.inl ⟨by rfl, by intro w'; go_simp; first | done | rfl⟩
      case rm15 =>
      simp only [Act.put, List.setIfInBounds_toArray, List.set_cons_zero, List.set_cons_succ]
      refine anyT_put 6 22 ?rv16 #[true, true, true, true, true, true, true, false, false, false, false, false, false] rfl rfl rfl (by kernel_rfl) (by kernel_rfl) (by kernel_rfl) (fun _ _ _ h => h) (by decide) ?ry16 (fun _ => c1) ?rm16
      case ry16 => first | exact Or.inl ⟨by rfl, by intro w'; go_simp; first | done | rfl⟩
      case rm16 =>
      simp only [Act.put, List.setIfInBounds_toArray, List.set_cons_zero, List.set_cons_succ]
      refine anyT_put 7 23 ?rv17 #[true, true, true, true, true, true, true, true, false, false, false, false, false] rfl rfl rfl (by kernel_rfl) (by kernel_rfl) (by kernel_rfl) (fun _ _ _ h => h) (by decide) ?ry17 (fun _ => c1) ?rm17
      case ry17 => first | exact Or.inl ⟨by rfl, by intro w'; go_simp; first | done | rfl⟩
      case rm17 =>
      simp only [Act.put, List.setIfInBounds_toArray, List.set_cons_zero, List.set_cons_succ]
      refine anyT_put 8 24 ?rv18 #[true, true, true, true, true, true, true, true, true, false, false, false, false] rfl rfl rfl (by kernel_rfl) (by kernel_rfl) (by kernel_rfl) (fun _ _ _ h => h) (by decide) ?ry18 (fun _ => c1) ?rm18
      case ry18 => first | exact Or.inl ⟨by rfl, by intro w'; go_simp; first | done | rfl⟩
      case rm18 =>
      simp only [Act.put, List.setIfInBounds_toArray, List.set_cons_zero, List.set_cons_succ]
      refine anyT_put 9 25 ?rv19 #[true, true, true, true, true, true, true, true, true, true, false, false, false] rfl rfl rfl (by kernel_rfl) (by kernel_rfl) (by kernel_rfl) (fun _ _ _ h => h) (by decide) ?ry19 (fun _ => c1) ?rm19
      case ry19 => first | exact Or.inl ⟨by rfl, by intro w'; go_simp; first | done | rfl⟩
      case rm19 =>
      simp only [Act.put, List.setIfInBounds_toArray, List.set_cons_zero, List.set_cons_succ]
      refine anyT_take 10 26 ?rv20 #[true, true, true, true, true, true, true, true, true, true, true, false, false] rfl rfl rfl (by kernel_rfl) (by kernel_rfl) (by kernel_rfl) (fun _ _ _ h => h) (by kernel_rfl) (by decide) (by kernel_rfl) ?ry20 (c1) ?rm20
      case ry20 => first | exact Or.inl ⟨by rfl, by intro w' hw'; (try dsimp only at hw'); go_simp; first | done | rfl⟩
      case rm20 =>
      simp only [Act.put, List.setIfInBounds_toArray, List.set_cons_zero, List.set_cons_succ]
      refine anyT_one 11 #[true, true, true, true, true, true, true, true, true, true, true, true, false] (by kernel_rfl) rfl rfl (fun K hK => ?_)
      go_simp
      refine hK.out _ _ (fun h => absurd h (by decide)) ?_
      clear hK K
      refine anyT_one 12 #[true, true, true, true, true, true, true, true, true, true, true, true, true] (by kernel_rfl) rfl rfl (fun K hK => ?_)
      go_simp
      refine hK.out _ _ (fun h => absurd h (by decide)) ?_
      clear hK K
      refine anyT_done (by kernel_rfl) ?_
      obtain ⟨w6, HW6⟩ : ∃ w6, Hid (w6 = (wr.setCell ⟨w.heap.size + 1 + 1, t, none⟩ (.int .i64 (A P R))).drew) := ⟨_, rfl⟩
      rw [← HW6.out]
      have HQ6 : Hid (Gb w6 w.heap.size A ∧ Abx w6 (w.heap.size + 1) (.bool false) (.slice none 0 0) (.slice none 0 0) ∧ MidC (w.heap.size + 1 + 1) (w.heap.size + 1 + 1 + 1) w6 (some ⟨w.heap.size + 1 + 1, 0, none⟩) (fil D (t + 1)) N ∧ Below w.heap.size w w6 ∧ w.heap.size + 1 + 1 + 1 ≤ w6.heap.size) := by
        show _ ∧ _
        rw [HW6.out, ← fil_next (by rw [HN.out.2.1]; exact hlt), HV.out]
        exact ⟨(HQ.out.1.ot (by show w.heap.size ≠ w.heap.size + 1 + 1; omega) _).dr, (HQ.out.2.1.ot (a := ⟨w.heap.size + 1 + 1, t, none⟩) (by show w.heap.size + 1 ≠ w.heap.size + 1 + 1; omega) _).dr, put0 HQ.out.2.2.1 HFL.out _, (HQ.out.2.2.2.1.setCell (p := ⟨w.heap.size + 1 + 1, t, none⟩) (by show w.heap.size ≤ w.heap.size + 1 + 1; omega) _).drew, by have := HQ.out.2.2.2.2; simp [World.drew, World.setCell]; omega⟩
      clear HW6 HQ HV c1 c3 f3 hq hr hwp HFL
      go_wp2_with fail
      exact ⟨⟨t + 1, by omega, by go_num, HQ6.out⟩, by simp [intOf]; omega⟩
    · obtain rfl : t = N := by omega
      have HD : Hid (MidC (w.heap.size + 1 + 1) (w.heap.size + 1 + 1 + 1) wr (some ⟨w.heap.size + 1 + 1, 0, none⟩) D t) := by
        have := HQ.out.2.2.1
        rwa [show t = D.length by rw [HN.out.2.1], fil_all, HN.out.2.1] at this
      have r0 := HQ.out.2.1.al (.cells #[.int .i64 (n : Int), .int .i64 (n : Int)] 3)
      have s0 := r0.c0
      have s1 := r0.c1
      have s2 := r0.c2
      have f0 := r0.fr 0
      have f1 := r0.fr 1
      have f2 := r0.fr 2
      have hsz := HQ.out.2.2.2.2
      go_wp2_with fail
      have FF := r0.set3 (.bool false) (.slice (some ⟨wr.heap.size, 0, none⟩) 2 2) (.slice (some ⟨w.heap.size + 1 + 1, 0, none⟩) t t)
      have q0 := FF.c0
      have q1 := FF.c1
      have q2 := FF.c2
      refine bodyPost_ret (v := .agg #[.bool false, .slice (some ⟨wr.heap.size, 0, none⟩) 2 2, .slice (some ⟨w.heap.size + 1 + 1, 0, none⟩) t t]) (by simp [results, Tryd.results32, go_sem, q0, q1, q2]) rfl ?_
      have hl := (lit_mid wr 3 [(n : Int), (n : Int)] 2 rfl).s3 (b := w.heap.size + 1) (by omega) (.bool false) (.slice (some ⟨wr.heap.size, 0, none⟩) 2 2) (.slice (some ⟨w.heap.size + 1 + 1, 0, none⟩) t t)
      have hm := (HD.out.al HQ.out.2.2.2.2 (.cells #[.int .i64 (n : Int), .int .i64 (n : Int)] 3)).s3 (b := w.heap.size + 1) (by omega) (.bool false) (.slice (some ⟨wr.heap.size, 0, none⟩) 2 2) (.slice (some ⟨w.heap.size + 1 + 1, 0, none⟩) t t)
      exact ⟨some ⟨wr.heap.size, 0, none⟩, some ⟨w.heap.size + 1 + 1, 0, none⟩, by rw [HN.out.2.1], hl.newc (by rw [size_set3]; simp) (by omega), by rw [HN.out.2.1]; exact hm.newc (by rw [size_set3]; simp; omega) (by omega), bel_set3 (HQ.out.2.2.2.1.alloc HQ.out.2.2.2.1.size _) (by omega) _ _ _⟩
end Go.Proofs.YtjaabemlpiafaaaDoor
