/-
  The program's characteristic of arrays.
-/
import Derived.Test.YtjaabemlpiafaaaDoorMgs
import Derived.Test.YtjaabemlpiafaaaDoorMgk
namespace Go.Proofs.YtjaabemlpiafaaaDoor
open Go.RowKit
set_option linter.unusedVariables false

/-- One set's share of the number at t. -/
def chT (n : Nat) (A : Mx) (t s : Nat) : Int := if n - cnt (bt s) n = t then sg (cnt (bt s) n) * dt (cnt (bt s) n) (sub (bt s) n A) else 0
/-- The numbers, so far. -/
def chLm (n : Nat) (A : Mx) (s : Nat) : List Int := (List.range (n + 1)).map fun t => wrap64 (sm s (chT n A t))
/-- The numbers of the characteristic. -/
def chR (n : Nat) (A : Mx) : List Int := (List.range (n + 1)).map fun t => wrap64 (chc n A (n - t))
theorem chL_len (n : Nat) (A : Mx) (s : Nat) : (chLm n A s).length = n + 1 := by simp [chLm]
theorem chR_len (n : Nat) (A : Mx) : (chR n A).length = n + 1 := by simp [chR]
theorem chL_nth {n t : Nat} (A : Mx) (s : Nat) (h : t < n + 1) : nth (chLm n A s) t = wrap64 (sm s (chT n A t)) := by
  rw [nth_get _ _ (by rw [chL_len]; exact h)]
  simp [chLm]
theorem chR_nth {n t : Nat} (A : Mx) (h : t < n + 1) : nth (chR n A) t = wrap64 (chc n A (n - t)) := by
  rw [nth_get _ _ (by rw [chR_len]; exact h)]
  simp [chR]
theorem chL_zero (n : Nat) (A : Mx) : chLm n A 0 = List.replicate (n + 1) 0 := by
  refine List.ext_getElem (by simp [chLm]) fun t h1 h2 => ?_
  rw [← nth_get _ _ h1, chL_nth A 0 (by rw [chL_len] at h1; exact h1), List.getElem_replicate]
  show wrap64 0 = 0
  exact w_small (by decide) (by decide)
theorem chL_next {n q k : Nat} {A : Mx} {s : Nat} {D : Int} (hk : k = cnt (bt s) n) (hq : q = n - k) (hD : D = dt k (sub (bt s) n A)) : (chLm n A s).set q (wrap64 (nth (chLm n A s) q + wrap64 (sg k * wrap64 D))) = chLm n A (s + 1) := by
  have hkn : k ≤ n := by rw [hk]; exact cnt_le _ n
  refine List.ext_getElem (by simp [chLm]) fun t h1 h2 => ?_
  have ht : t < n + 1 := by rw [chL_len] at h2; exact h2
  rw [List.getElem_set, ← nth_get _ _ h2, chL_nth A (s + 1) ht]
  by_cases e : q = t
  · rw [if_pos e, chL_nth A s (by omega), w_mulr, w_addl, w_addr, e]
    show _ = wrap64 (sm s (chT n A t) + chT n A t s)
    rw [show chT n A t s = sg k * D by unfold chT; rw [if_pos (by omega), ← hk, hD]]
  · rw [if_neg e, ← nth_get _ _ (by rw [chL_len]; exact ht), chL_nth A s ht]
    show _ = wrap64 (sm s (chT n A t) + chT n A t s)
    rw [show chT n A t s = 0 by unfold chT; rw [if_neg (by omega)], Int.add_zero]
theorem chL_all (n : Nat) (A : Mx) : chLm n A (2 ^ n) = chR n A := by
  unfold chLm chR
  refine List.map_congr_left fun t ht => ?_
  have ht' : t < n + 1 := by simpa using ht
  congr 1
  unfold chc
  refine sm_congr fun s _ => ?_
  have := cnt_le (bt s) n
  unfold chT
  by_cases e : cnt (bt s) n = n - t
  · rw [if_pos e, if_pos (by omega), e]
  · rw [if_neg e, if_neg (by omega)]
set_option maxRecDepth 100000 in
set_option maxHeartbeats 2000000 in
theorem mchr_no (c : Bool) (sa : Option Addr) (sc : Nat) (sz : List Int) (da : Option Addr) (dc : Nat) (dz : List Int) (w : World) (h1 : sz.length ≤ 9223372036854775807) (h2 : dz.length ≤ 9223372036854775807) (hs : IsInts w.heap.size w sa sz) (hd : IsInts w.heap.size w da dz) (h : mxE c sz dz ≠ 0) :
    Calls Tryd.prog 12 #[.agg #[.bool c, .slice sa sz.length sc, .slice da dz.length dc]] w fun e w' => e = .returned (.tuple #[.slice none 0 0, .iface 25 (.int .i64 (mxE c sz dz))]) ∧ Below w.heap.size w w' := by
  obtain ⟨w0, HW⟩ : ∃ w0, Hid (w0 = (w.alloc (.cells #[.bool c, .slice sa sz.length sc, .slice da dz.length dc] 24))) := ⟨_, rfl⟩
  have HB0 : Hid (Below w.heap.size w w0) := by rw [HW.out]; exact (Below.refl _ w).alloc (Nat.le_refl _) _
  have HA : Abx w0 w.heap.size (.bool c) (.slice sa sz.length sc) (.slice da dz.length dc) := by rw [HW.out]; exact Abx.new w _ _ _
  have hC := read_no c sa sc sz da dc dz w0 h1 h2 ((hs.below HB0.out).mono HB0.out.size) ((hd.below HB0.out).mono HB0.out.size) h
  have p0 := HA.c0
  have p1 := HA.c1
  have p2 := HA.c2
  clear hs hd HA h
  go_enter Tryd.func12, Tryd.ntmps12
  go_upto_region 1 with fail
  rw [← HW.out]
  go_wp2_with fail
  refine hC.mono ?_
  rintro e y1 ⟨rfl, hB⟩
  have HB1 : Hid (Below w.heap.size w y1) := HB0.out.trans (hB.mono HB0.out.size)
  clear p0 p1 p2 HW HB0 hC hB
  go_wp2_with (refine wpl_stg y1.heap.size _ (fun _ _ => 0) _ _ (Gb.new0 y1) rfl rfl rfl rfl rfl ?_)
  go_ret2
  exact ⟨rfl, bel_row (HB1.out.alloc HB1.out.size _) HB1.out.size⟩
set_option maxRecDepth 100000 in
set_option maxHeartbeats 2000000 in
theorem mchr_ok (n : Nat) (hn : n ≤ 6) (sa : Option Addr) (sc : Nat) (da : Option Addr) (dc : Nat) (dz : List Int) (m : Nat) (hm : dz.length = m) (hl : dz.length = n * n) (w : World) (hs : IsInts w.heap.size w sa [(n : Int), (n : Int)]) (hd : IsInts w.heap.size w da dz) :
    Calls Tryd.prog 12 #[.agg #[.bool false, .slice sa 2 sc, .slice da m dc]] w fun e w' => ∃ xa, e = .returned (.tuple #[.slice xa (n + 1) (n + 1), .nilIface]) ∧ NewC w.heap.size w' xa (chR n (rdg n dz)) (n + 1) ∧ Below w.heap.size w w' := by
  obtain ⟨G0, hG0⟩ : ∃ G0, G0 = rdg n dz := ⟨_, rfl⟩
  rw [← hG0]
  obtain ⟨w0, HW⟩ : ∃ w0, Hid (w0 = (w.alloc (.cells #[.bool false, .slice sa 2 sc, .slice da m dc] 24))) := ⟨_, rfl⟩
  have HB0 : Hid (Below w.heap.size w w0) := by rw [HW.out]; exact (Below.refl _ w).alloc (Nat.le_refl _) _
  have HA : Abx w0 w.heap.size (.bool false) (.slice sa 2 sc) (.slice da m dc) := by rw [HW.out]; exact Abx.new w _ _ _
  have hC := read_ok n hn sa sc da dc dz hl w0 ((hs.below HB0.out).mono HB0.out.size) ((hd.below HB0.out).mono HB0.out.size)
  rw [hm] at hC
  have HL : Hid (dz.length = n * n) := hl
  have p0 := HA.c0
  have p1 := HA.c1
  have p2 := HA.c2
  clear hs hd HA hl hm
  go_enter Tryd.func12, Tryd.ntmps12
  go_upto_region 1 with fail
  rw [← HW.out]
  go_wp2_with fail
  refine hC.mono ?_
  rintro e y1 ⟨rfl, hB⟩
  have HB1 : Hid (Below w.heap.size w y1) := HB0.out.trans (hB.mono HB0.out.size)
  clear p0 p1 p2 HW HB0 hC hB
  rw [← hG0]
  obtain ⟨M, hM⟩ : ∃ M : Nat, (n : Int) + 1 = (M : Int) := ⟨n + 1, by omega⟩
  obtain ⟨Pw, hPw⟩ : ∃ Pw : Nat, Pw = 2 ^ n := ⟨_, rfl⟩
  have HM : Hid (M = n + 1) := by show _ = _; omega
  have HP : Hid (Pw = 2 ^ n) := hPw
  have P64 : Pw ≤ 64 := by rw [hPw]; exact Nat.pow_le_pow_right (by decide) hn
  have M7 : M ≤ 7 := by omega
  have hmk := run_make_row' (P := Tryd.prog) 22 3 (.int .i64 0) 8 Tryd.underlying22 Tryd.infoInt rfl .i64 .i64 M (by omega) (by omega)
  have hsh : (2 : Int) ^ n = (Pw : Int) := by rw [hPw]; simp
  clear hPw hG0
  go_wp2_with (refine wpl_stg y1.heap.size _ G0 _ _ (Gb.new0 y1) rfl rfl rfl rfl rfl ?_)
  rw [ofg_zero]
  obtain ⟨w3, HW3⟩ : ∃ w3, Hid (w3 = (World.setRow (y1.alloc (.cells (ofg fun _ _ => 0) 52)) y1.heap.size (ofg G0)).alloc (.cells (madeCells #[.int .i64 0] M) 3)) := ⟨_, rfl⟩
  rw [← HW3.out]
  obtain ⟨bg, hbg⟩ : ∃ b, b = y1.heap.size := ⟨_, rfl⟩
  obtain ⟨bT, hbT⟩ : ∃ b, b = y1.heap.size + 1 := ⟨_, rfl⟩
  rw [← hbT, ← hbg]
  have HQ0 : Hid (Gb w3 bg G0 ∧ MidC bT (bT + 1) w3 (some ⟨bT, 0, none⟩) (chLm n G0 0) M ∧ Below w.heap.size w w3 ∧ bT + 1 ≤ w3.heap.size) := by
    show _ ∧ _
    rw [HW3.out, chL_zero, ← HM.out, hbg, hbT]
    have h3 := zer_mid (World.setRow (y1.alloc (.cells (ofg fun _ _ => 0) 52)) y1.heap.size (ofg G0)) 3 M
    have hz : (World.setRow (y1.alloc (.cells (ofg fun _ _ => 0) 52)) y1.heap.size (ofg G0)).heap.size = y1.heap.size + 1 := by simp [World.setRow]
    rw [hz] at h3
    exact ⟨(Gb.new y1 _).row.al _, h3, (bel_row (HB1.out.alloc HB1.out.size _) HB1.out.size).alloc (by rw [hz]; have := HB1.out.size; omega) _, by rw [World.size_alloc, hz]; exact Nat.le_refl _⟩
  have hgT : bg < bT := by omega
  have hwg : w.heap.size ≤ bg := by rw [hbg]; exact HB1.out.size
  clear HW3 hbg hbT HB1 hmk hM hsh
  go_loopw [25] (fun i wr => ∃ s : Nat, s ≤ Pw ∧ i = .int .i64 s ∧ Gb wr bg G0 ∧ MidC bT (bT + 1) wr (some ⟨bT, 0, none⟩) (chLm n G0 s) M ∧ Below w.heap.size w wr ∧ bT + 1 ≤ wr.heap.size) (fun i _ => Pw - (intOf i).toNat)
  case atStart => exact ⟨0, Nat.zero_le _, rfl, HQ0.out⟩
  case round =>
    clear HQ0
    obtain ⟨s, hs, rfl, hQ⟩ := hrel
    have HQ : Hid (Gb wr bg G0 ∧ MidC bT (bT + 1) wr (some ⟨bT, 0, none⟩) (chLm n G0 s) M ∧ Below w.heap.size w wr ∧ bT + 1 ≤ wr.heap.size) := hQ
    clear hQ
    by_cases hlt : s < Pw
    · go_wp2_with (refine wpl_ldg bg G0 _ HQ.out.1 rfl rfl rfl ?_)
      refine (gamong_any n hn G0 s (by omega) _).mono ?_
      rintro e y2 ⟨G, rfl, hG, hB2⟩
      obtain ⟨k, hk⟩ : ∃ k, k = cnt (bt s) n := ⟨_, rfl⟩
      obtain ⟨q, hq⟩ : ∃ q, q = n - k := ⟨_, rfl⟩
      rw [← hk]
      have hkn : k ≤ n := by rw [hk]; exact cnt_le _ n
      have HD : Hid (dt k G = dt k (sub (bt s) n G0)) := by show _ = _; rw [hk]; exact hG.dt
      have HK : Hid (k = cnt (bt s) n ∧ q = n - k) := ⟨hk, hq⟩
      have hsub : IntKind.i64.wrap ((n : Int) - (k : Int)) = (q : Int) := by rw [IntWalk.i64_left, show ((n : Int) - (k : Int)) = (q : Int) by omega]; exact w_small (by omega) (by omega)
      have hqM : q < M := by have := HM.out; omega
      have hqi : (q : Int) < (M : Int) := by omega
      have H64 : Hid (k ≤ 64 ∧ k ≤ 6) := ⟨by omega, by omega⟩
      have HQ2 : Hid (Gb y2 bg G0 ∧ MidC bT (bT + 1) y2 (some ⟨bT, 0, none⟩) (chLm n G0 s) M ∧ Below w.heap.size w y2 ∧ bT + 1 ≤ y2.heap.size) := ⟨HQ.out.1.go hB2, HQ.out.2.1.go HQ.out.2.2.2 hB2, HQ.out.2.2.1.trans (hB2.mono HQ.out.2.2.1.size), by have := HQ.out.2.2.2; have := hB2.size; omega⟩
      clear HQ hG hB2 hk hq
      go_upto_region 9 with (refine wpl_stg y2.heap.size _ G _ _ (Gb.new0 y2) rfl rfl rfl rfl rfl ?_)
      rw [ofg_zero]
      obtain ⟨y3, HY3⟩ : ∃ y3, Hid (y3 = World.setRow (y2.alloc (.cells (ofg fun _ _ => 0) 52)) y2.heap.size (ofg G)) := ⟨_, rfl⟩
      rw [← HY3.out]
      obtain ⟨bp, hbp⟩ : ∃ b, b = y2.heap.size := ⟨_, rfl⟩
      rw [← hbp]
      have HQ3 : Hid (Gb y3 bp G ∧ Gb y3 bg G0 ∧ MidC bT (bT + 1) y3 (some ⟨bT, 0, none⟩) (chLm n G0 s) M ∧ Below w.heap.size w y3 ∧ bT + 1 ≤ y3.heap.size ∧ bT + 1 ≤ bp) := by
        show _ ∧ _
        rw [HY3.out, hbp]
        have hz := HQ2.out.2.2.2
        have hm3 := HQ2.out.2.1.al hz (.cells (ofg fun _ _ => 0) 52)
        refine ⟨(Gb.new y2 _).row, (HQ2.out.1.al _).oth (by omega), ?_, bel_row (HQ2.out.2.2.1.alloc HQ2.out.2.2.1.size _) HQ2.out.2.2.1.size, by simp [World.setRow]; omega, hz⟩
        exact ⟨hm3.1.bel (bel_row (Below.refl _ _) hz), hm3.2⟩
      clear HY3 hbp HQ2
      obtain ⟨X, hX⟩ : ∃ X, X = nth (chLm n G0 s) q := ⟨_, rfl⟩
      have HX : Hid ((chLm n G0 s).set q (wrap64 (X + wrap64 (sg k * wrap64 (dt k G)))) = chLm n G0 (s + 1)) := by show _ = _; rw [hX]; exact chL_next HK.out.1 HK.out.2 HD.out
      have HqL : Hid (q < (chLm n G0 s).length) := by show _ < _; rw [chL_len, ← HM.out]; exact hqM
      have cq : ∀ v, Below y3.heap.size y3 v → v.cell? ⟨bT, q, none⟩ = some (.int .i64 X) ∧ v.frozen? ⟨bT, q, none⟩ = false := fun v hv => by
        obtain ⟨b', o', hbo, _, _, c3, f3⟩ := (HQ3.out.2.2.1.go HQ3.out.2.2.2.2.1 hv).at HqL.out
        cases hbo
        rw [Nat.zero_add] at c3 f3
        rw [hX]
        exact ⟨c3, f3⟩
      have Hcq : Hid (∀ v, Below y3.heap.size y3 v → v.cell? ⟨bT, q, none⟩ = some (.int .i64 X) ∧ v.frozen? ⟨bT, q, none⟩ = false) := cq
      clear cq hX
      have hb0 : Below y3.heap.size y3 y3.drew := (Below.refl _ y3).drew
      refine anyT_begin 13 (fun w' => w'.cell? ⟨bT, q, none⟩ = some (.int .i64 X) ∧ Gb w' bp G) 15 #[false, false, false, false, false, false, false, false, false, false, false, false, false, false, false] (by kernel_rfl) rfl rfl ?_
      refine anyT_put 0 35 ?rv0 #[true, false, false, false, false, false, false, false, false, false, false, false, false, false, false] rfl rfl rfl (by kernel_rfl) (by kernel_rfl) (by kernel_rfl) (fun _ _ _ h => h) (by decide) ?ry0 (fun _ => ⟨(Hcq.out _ hb0).1, HQ3.out.1⟩) ?rm0
      case ry0 => first | exact Or.inl ⟨by rfl, by intro w'; go_simp; first | done | rfl⟩
      case rm0 =>
      simp only [Act.put, List.setIfInBounds_toArray, List.set_cons_zero, List.set_cons_succ]
      refine anyT_put 1 36 ?rv1 #[true, true, false, false, false, false, false, false, false, false, false, false, false, false, false] rfl rfl rfl (by kernel_rfl) (by kernel_rfl) (by kernel_rfl) (fun _ _ _ h => h) (by decide) ?ry1 (fun _ => ⟨(Hcq.out _ hb0).1, HQ3.out.1⟩) ?rm1
      case ry1 => first | exact Or.inl ⟨by rfl, by intro w'; go_simp; first | done | rfl⟩
      case rm1 =>
      simp only [Act.put, List.setIfInBounds_toArray, List.set_cons_zero, List.set_cons_succ]
      refine anyT_put 2 37 ?rv2 #[true, true, true, false, false, false, false, false, false, false, false, false, false, false, false] rfl rfl rfl (by kernel_rfl) (by kernel_rfl) (by kernel_rfl) (fun _ _ _ h => h) (by decide) ?ry2 (fun _ => ⟨(Hcq.out _ hb0).1, HQ3.out.1⟩) ?rm2
      case ry2 => first | exact Or.inl ⟨by rfl, by intro w'; go_simp; first | done | rfl⟩
      case rm2 =>
      simp only [Act.put, List.setIfInBounds_toArray, List.set_cons_zero, List.set_cons_succ]
      refine anyT_put 3 38 ?rv3 #[true, true, true, true, false, false, false, false, false, false, false, false, false, false, false] rfl rfl rfl (by kernel_rfl) (by kernel_rfl) (by kernel_rfl) (fun _ _ _ h => h) (by decide) ?ry3 (fun _ => ⟨(Hcq.out _ hb0).1, HQ3.out.1⟩) ?rm3
      case ry3 => first | exact Or.inl ⟨by rfl, by intro w'; go_simp; first | done | rfl⟩
      case rm3 =>
      simp only [Act.put, List.setIfInBounds_toArray, List.set_cons_zero, List.set_cons_succ]
      refine anyT_put 4 39 ?rv4 #[true, true, true, true, true, false, false, false, false, false, false, false, false, false, false] rfl rfl rfl (by kernel_rfl) (by kernel_rfl) (by kernel_rfl) (fun _ _ _ h => h) (by decide) ?ry4 (fun _ => ⟨(Hcq.out _ hb0).1, HQ3.out.1⟩) ?rm4
      case ry4 => first | exact Or.inl ⟨by rfl, by intro w'; go_simp; first | done | rfl⟩
      case rm4 =>
      simp only [Act.put, List.setIfInBounds_toArray, List.set_cons_zero, List.set_cons_succ]
      refine anyT_take 5 40 ?rv5 #[true, true, true, true, true, true, false, false, false, false, false, false, false, false, false] rfl rfl rfl (by kernel_rfl) (by kernel_rfl) (by kernel_rfl) (fun _ _ _ h => h) (by kernel_rfl) (by decide) (by kernel_rfl) ?ry5 (⟨(Hcq.out _ hb0).1, HQ3.out.1⟩) ?rm5
      case ry5 => first | exact Or.inl ⟨by rfl, by intro w' hw'; (try dsimp only at hw'); go_simp; first | done | rfl⟩
      case rm5 =>
      simp only [Act.put, List.setIfInBounds_toArray, List.set_cons_zero, List.set_cons_succ]
      refine anyT_put 6 41 ?rv6 #[true, true, true, true, true, true, true, false, false, false, false, false, false, false, false] rfl rfl rfl (by kernel_rfl) (by kernel_rfl) (by kernel_rfl) (fun _ _ _ h => h) (by decide) ?ry6 (fun _ => ⟨(Hcq.out _ hb0).1, HQ3.out.1⟩) ?rm6
      case ry6 => first | exact Or.inl ⟨by rfl, by intro w'; go_simp; first | done | rfl⟩
      case rm6 =>
      simp only [Act.put, List.setIfInBounds_toArray, List.set_cons_zero, List.set_cons_succ]
      refine anyT_take 8 43 (.agg (ofg G)) #[true, true, true, true, true, true, true, false, true, false, false, false, false, false, false] rfl rfl rfl (by kernel_rfl) (by kernel_rfl) (by kernel_rfl) (fun _ _ _ h => h) (by kernel_rfl) (by decide) (by kernel_rfl) ?ry7 (⟨(Hcq.out _ hb0).1, HQ3.out.1⟩) ?rm7
      case ry7 => exact yld bp G (.tmp 9) (by rfl) (by rfl) (by rfl) (by intro _ h; exact h.2)
      case rm7 =>
      simp only [Act.put, List.setIfInBounds_toArray, List.set_cons_zero, List.set_cons_succ]
      refine anyT_put 9 44 ?rv8 #[true, true, true, true, true, true, true, false, true, true, false, false, false, false, false] rfl rfl rfl (by kernel_rfl) (by kernel_rfl) (by kernel_rfl) (fun _ _ _ h => h) (by decide) ?ry8 (fun _ => ⟨(Hcq.out _ hb0).1, HQ3.out.1⟩) ?rm8
      case ry8 => first | exact Or.inl ⟨by rfl, by intro w'; go_simp; first | done | rfl⟩
      case rm8 =>
      simp only [Act.put, List.setIfInBounds_toArray, List.set_cons_zero, List.set_cons_succ]
      refine anyT_one 7 #[true, true, true, true, true, true, true, true, true, true, false, false, false, false, false] (by kernel_rfl) rfl rfl (fun K hK => ?_)
      go_simp
      go_wp2_with (go_at_call 29; refine (sign_any k H64.out.1 _).mono ?_; rintro e w3 ⟨rfl, hw3⟩; obtain rfl := hw3.symm)
      refine hK.out _ _ (fun _ => ⟨(Hcq.out _ hb0).1, HQ3.out.1⟩) ?_
      clear hK K
      refine anyT_one 10 #[true, true, true, true, true, true, true, true, true, true, true, false, false, false, false] (by kernel_rfl) rfl rfl (fun K hK => ?_)
      go_simp
      go_wp2_with (go_at_call 26; refine (det_any k H64.out.2 G _).mono ?_; rintro e y4 ⟨rfl, hB4⟩)
      have hb4 : Below y3.heap.size y3 y4 := hb0.trans (hB4.mono hb0.size)
      have g4 := HQ3.out.1.go hb4
      have c4 := (Hcq.out _ hb4).1
      have f4 := (Hcq.out _ hb4).2
      refine hK.out _ _ (fun _ => ⟨c4, g4⟩) ?_
      clear hK K
      refine anyT_put 11 46 ?rv11 #[true, true, true, true, true, true, true, true, true, true, true, true, false, false, false] rfl rfl rfl (by kernel_rfl) (by kernel_rfl) (by kernel_rfl) (fun _ _ _ h => h) (by decide) ?ry11 (fun _ => ⟨c4, g4⟩) ?rm11
      case ry11 => first | exact Or.inl ⟨by rfl, by intro w'; go_simp; first | done | rfl⟩
      case rm11 =>
      simp only [Act.put, List.setIfInBounds_toArray, List.set_cons_zero, List.set_cons_succ]
      refine anyT_put 12 47 ?rv12 #[true, true, true, true, true, true, true, true, true, true, true, true, true, false, false] rfl rfl rfl (by kernel_rfl) (by kernel_rfl) (by kernel_rfl) (fun _ _ _ h => h) (by decide) ?ry12 (fun _ => ⟨c4, g4⟩) ?rm12
      case ry12 => first | exact Or.inl ⟨by rfl, by intro w'; go_simp; first | done | rfl⟩
      case rm12 =>
      simp only [Act.put, List.setIfInBounds_toArray, List.set_cons_zero, List.set_cons_succ]
      refine anyT_one 13 #[true, true, true, true, true, true, true, true, true, true, true, true, true, true, false] (by kernel_rfl) rfl rfl (fun K hK => ?_)
      go_simp
      refine hK.out _ _ (fun h => absurd h (by decide)) ?_
      clear hK K
      refine anyT_one 14 #[true, true, true, true, true, true, true, true, true, true, true, true, true, true, true] (by kernel_rfl) rfl rfl (fun K hK => ?_)
      go_simp
      refine hK.out _ _ (fun h => absurd h (by decide)) ?_
      clear hK K
      refine anyT_done (by kernel_rfl) ?_
      simp only [IntWalk.i64_left]
      obtain ⟨w6, HW6⟩ : ∃ w6, Hid (w6 = y4.setCell ⟨bT, q, none⟩ (.int .i64 (wrap64 (X + wrap64 (sg k * wrap64 (dt k G)))))) := ⟨_, rfl⟩
      rw [← HW6.out]
      have HQ6 : Hid (Gb w6 bg G0 ∧ MidC bT (bT + 1) w6 (some ⟨bT, 0, none⟩) (chLm n G0 (s + 1)) M ∧ Below w.heap.size w w6 ∧ bT + 1 ≤ w6.heap.size) := by
        show _ ∧ _
        rw [HW6.out, ← HX.out]
        exact ⟨(HQ3.out.2.1.go hb4).ot (by show bg ≠ bT; omega) _, put0 (HQ3.out.2.2.1.go HQ3.out.2.2.2.2.1 hb4) HqL.out _, (HQ3.out.2.2.2.1.trans (hb4.mono HQ3.out.2.2.2.1.size)).setCell (p := ⟨bT, q, none⟩) (by show w.heap.size ≤ bT; omega) _, by have := HQ3.out.2.2.2.2.1; have := hb4.size; simp [World.setCell]; omega⟩
      clear HW6 HQ3 HX HqL Hcq hb0 hb4 hB4 g4 c4 f4 hsub
      go_wp2_with fail
      exact ⟨⟨s + 1, by omega, by go_num, HQ6.out⟩, by simp [intOf]; omega⟩
    · obtain rfl : s = Pw := by omega
      have HE : Hid (MidC bT (bT + 1) wr (some ⟨bT, 0, none⟩) (chR n G0) M) := by
        have := HQ.out.2.1
        rwa [HP.out, chL_all] at this
      go_wp2_with fail
      go_ret2
      exact ⟨some ⟨bT, 0, none⟩, by rw [HM.out]; rfl, by rw [← HM.out]; exact HE.out.newc HQ.out.2.2.2 (by omega), HQ.out.2.2.1⟩
end Go.Proofs.YtjaabemlpiafaaaDoor
