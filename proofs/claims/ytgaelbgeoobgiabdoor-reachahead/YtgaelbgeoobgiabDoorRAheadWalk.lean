/-
  The walk of the statement ReachAhead, given what the program tells.
-/
import Derived.BigQuiet
import Derived.Test.YtgaelbgeoobgiabDoorRlw
import Derived.Test.YtgaelbgeoobgiabDoorRgo
import Derived.Test.YtgaelbgeoobgiabDoorRcf
import Derived.Test.YtgaelbgeoobgiabDoorPerm
import Derived.Test.YtgaelbgeoobgiabDoorErr
import Derived.Test.YtgaelbgeoobgiabDoorMidc
import Derived.Test.YtgaelbgeoobgiabDoorCutq
namespace Go.Proofs.YtgaelbgeoobgiabDoor
open Go.RowKit
set_option linter.unusedVariables false

theorem all_in15 {R : Rl} {n : Nat} {p : List Nat} (h : Ahd R n p) (hl : p.length = n) {a : Nat} (ha : a < n) : a ∈ p := Classical.byContradiction fun hn => by
  have h1 : (a :: p).Nodup := List.nodup_cons.2 ⟨hn, h.once⟩
  have h2 := nodup_le (n := n) h1 fun x hx => by
    rcases List.mem_cons.1 hx with e | e
    · rw [e]; exact ha
    · exact h.low x e
  rw [List.length_cons] at h2
  omega
theorem ord_in15 {R : Rl} {n : Nat} {p : List Nat} (h : Ahd R n p) (hl : p.length = n) : ordB (inL p) = true := by
  rw [ordB_iff]
  refine ⟨fun j hj => ?_, fun i j hij hj => ?_⟩
  · rw [inL_len] at hj
    rw [inL_nth hj, inL_len]
    have := h.low _ (getD_mem hj)
    omega
  · rw [inL_len] at hj
    rw [inL_nth hj, inL_nth (by omega)]
    intro e
    have e2 : p.getD i 0 = p.getD j 0 := by omega
    rw [List.getD_eq_getElem?_getD, List.getD_eq_getElem?_getD, List.getElem?_eq_getElem (by omega), List.getElem?_eq_getElem hj] at e2
    have := (List.getElem_inj h.once).1 e2
    omega
theorem err_no15 (e : Int) (he : e ≠ 0) (w : World) (hg : HasErr w) : Calls Tryd.prog 7 #[.iface 33 (.int .i64 e), .int .i64 e] w fun r w' => r = .returned (.bool true) ∧ Below w.heap.size w w' := by
  have h := error_same e w hg
  rw [errV_pos he] at h
  exact h
theorem shp14 {w v : World} {b o n sc : Nat} (h : IsC w.heap.size w (some ⟨b, o, none⟩) [(n : Int), (n : Int)] sc) (hB : Below w.heap.size w v) : b < w.heap.size ∧ v.cell? ⟨b, o, none⟩ = some (.int .i64 (n : Int)) := by
  obtain ⟨b', o', e, hb, hc⟩ := (h.1.below hB).at (q := 0) (by simp)
  cases e
  have h0 := hc 0 (by simp)
  rw [Nat.add_zero] at h0
  exact ⟨hb, h0⟩
theorem opn14 {w : World} {sa : Option Addr} {n sc : Nat} (h : IsC w.heap.size w sa [(n : Int), (n : Int)] sc) : ∃ b o, sa = some ⟨b, o, none⟩ := by
  obtain ⟨b, o, e, _, _⟩ := h.1.at (q := 0) (by simp)
  exact ⟨b, o, e⟩
set_option maxRecDepth 100000 in
set_option maxHeartbeats 2000000 in
theorem ahea_no (c1 : Bool) (sa1 : Option Addr) (sc1 : Nat) (sz1 : List Int) (da1 : Option Addr) (dc1 : Nat) (dz1 : List Int) (w : World) (hg : HasErr w) (w8 : IsArrD w sa1 sz1 sc1 da1 dz1 dc1) (h0 : rlE c1 sz1 dz1 ≠ 0) :
    Calls Tryd.prog 3 #[.agg #[.bool c1, .slice sa1 sz1.length sc1, .slice da1 dz1.length dc1]] w fun e w' => e = .returned (.bool true) ∧ Below w.heap.size w w' := by
  have HI1 : Hid (IsC w.heap.size w sa1 sz1 sc1 ∧ IsC w.heap.size w da1 dz1 dc1) := ⟨w8.2.2.1, w8.2.2.2.1⟩
  have HNe : Hid (rlE c1 sz1 dz1 ≠ 0) := h0
  clear h0 hg
  have n1 := Abx.new w (.bool c1) (.slice sa1 sz1.length sc1) (.slice da1 dz1.length dc1)
  go_enter Tryd.func3, Tryd.ntmps3
  go_wp2_with fail
  obtain ⟨wo2, hwo2⟩ : ∃ wo2, wo2 = (w.alloc (.cells #[.bool c1, .slice sa1 sz1.length sc1, .slice da1 dz1.length dc1] 24)) := ⟨_, rfl⟩
  rw [← hwo2]
  have z3 : w.heap.size + 1 ≤ wo2.heap.size := by rw [hwo2]; simp only [World.size_alloc]; omega
  have B4 : Hid (Abx wo2 (w.heap.size) (.bool c1) (.slice sa1 sz1.length sc1) (.slice da1 dz1.length dc1)) := by rw [hwo2]; exact n1
  have hb5 : Hid (Below w.heap.size w wo2) := by rw [hwo2]; exact ((Below.refl w.heap.size w).alloc (by omega) (.cells #[.bool c1, .slice sa1 sz1.length sc1, .slice da1 dz1.length dc1] 24))
  have zwo2 : w.heap.size ≤ wo2.heap.size := hb5.out.size
  clear hwo2 n1
  refine (chain_any _).mono ?_
  rintro e v1 ⟨rfl, hB⟩
  have z6 : wo2.heap.size ≤ v1.heap.size := hB.size
  have B7 : Hid (Abx v1 (w.heap.size) (.bool c1) (.slice sa1 sz1.length sc1) (.slice da1 dz1.length dc1)) := B4.out.go hB
  have hb8 : Hid (Below w.heap.size w v1) := hb5.out.trans (hB.mono hb5.out.size)
  clear hB hb5 B4
  have l9 := (B7.out).c0
  have l10 := (B7.out).c1
  have l11 := (B7.out).c2
  go_wp2_with fail
  clear l9 l10 l11
  refine (ord_no c1 sa1 sc1 sz1 da1 dc1 dz1 _ w8.1 w8.2.1 ((HI1.out.1.below hb8.out).mono hb8.out.size).1 ((HI1.out.2.below hb8.out).mono hb8.out.size).1 HNe.out).mono ?_
  rintro e v2 ⟨rfl, hB⟩
  have z12 : v1.heap.size ≤ v2.heap.size := hB.size
  have B13 : Hid (Abx v2 (w.heap.size) (.bool c1) (.slice sa1 sz1.length sc1) (.slice da1 dz1.length dc1)) := B7.out.go hB
  have hb14 : Hid (Below w.heap.size w v2) := hb8.out.trans (hB.mono hb8.out.size)
  clear hB hb8 B7
  have l15 := (B13.out).c0
  have l16 := (B13.out).c1
  have l17 := (B13.out).c2
  go_wp2_with fail
  clear l15 l16 l17
  refine (clo_no c1 sa1 sc1 sz1 da1 dc1 dz1 _ w8.1 w8.2.1 ((HI1.out.1.below hb14.out).mono hb14.out.size).1 ((HI1.out.2.below hb14.out).mono hb14.out.size).1 HNe.out).mono ?_
  rintro e v3 ⟨rfl, hB⟩
  have z18 : v2.heap.size ≤ v3.heap.size := hB.size
  have B19 : Hid (Abx v3 (w.heap.size) (.bool c1) (.slice sa1 sz1.length sc1) (.slice da1 dz1.length dc1)) := B13.out.go hB
  have hb20 : Hid (Below w.heap.size w v3) := hb14.out.trans (hB.mono hb14.out.size)
  clear hB hb14 B13
  have n21 := Abx.new v3 (.bool false) (.slice none 0 0) (.slice none 0 0)
  go_wp2_with fail
  obtain ⟨wo22, hwo22⟩ : ∃ wo22, wo22 = (v3.alloc (.cells #[.bool false, .slice none 0 0, .slice none 0 0] 24)) := ⟨_, rfl⟩
  rw [← hwo22]
  have z23 : v3.heap.size + 1 ≤ wo22.heap.size := by rw [hwo22]; simp only [World.size_alloc]; omega
  have B24 : Hid (Abx wo22 (w.heap.size) (.bool c1) (.slice sa1 sz1.length sc1) (.slice da1 dz1.length dc1)) := by rw [hwo22]; exact (B19.out.al (.cells #[.bool false, .slice none 0 0, .slice none 0 0] 24))
  have B25 : Hid (Abx wo22 (v3.heap.size) (.bool false) (.slice none 0 0) (.slice none 0 0)) := by rw [hwo22]; exact n21
  have hb26 : Hid (Below w.heap.size w wo22) := by rw [hwo22]; exact (hb20.out.alloc (by omega) (.cells #[.bool false, .slice none 0 0, .slice none 0 0] 24))
  have zwo22 : w.heap.size ≤ wo22.heap.size := hb26.out.size
  clear hwo22 n21 hb20 B19
  go_wp2_with fail
  go_ret
  exact ⟨rfl, hb26.out⟩
set_option maxRecDepth 100000 in
set_option maxHeartbeats 2000000 in
theorem ahea_none (n : Nat) (hn : n ≤ 24) (b1 o1 sc1 : Nat) (da1 : Option Addr) (dc1 : Nat) (dz1 : List Int) (HL1 : Hid (dz1.length = n * n)) (w : World) (HI1 : Hid (IsC w.heap.size w (some ⟨b1, o1, none⟩) [(n : Int), (n : Int)] sc1 ∧ IsC w.heap.size w da1 dz1 dc1 ∧ ∀ j, In64 (nth dz1 j))) (hg : HasErr w) (hk1 : mskB dz1 = true) (ho : tp (rdR n dz1) n n [] = none) :
    Calls Tryd.prog 3 #[.agg #[.bool false, .slice (some ⟨b1, o1, none⟩) 2 sc1, .slice da1 dz1.length dc1]] w fun e w' => e = .returned (.bool true) ∧ Below w.heap.size w w' := by
  have HK1 : Hid (mskB dz1 = true) := hk1
  obtain ⟨N, hN⟩ : ∃ N, N = n * n := ⟨_, rfl⟩
  have N576 : N ≤ 576 := by have : n * n ≤ 24 * 24 := Nat.mul_le_mul hn hn; omega
  have HN : Hid (N = n * n ∧ dz1.length = N) := ⟨hN, by rw [HL1.out, hN]⟩
  clear hN
  have hmul : (n : Int) * (n : Int) = (N : Int) := by rw [HN.out.1]; simp
  have HSh : Hid (∀ v, Below w.heap.size w v → v.cell? ⟨b1, o1, none⟩ = some (.int .i64 (n : Int))) := fun v h => (shp14 HI1.out.1 h).2
  have HLp : Hid ((clL n (clB (rdR n dz1) n)).length = N) := by show _ = _; rw [clL_len, HN.out.1]
  have HG : Hid (HasErr w) := hg
  have HO : Hid (tp (rdR n dz1) n n [] = none) := ho
  have HCi : Hid (∃ i, i < n ∧ clB (rdR n dz1) n i i = true) := tp_none (by simp) ho
  clear ho hg
  have HP : Hid (∀ v, IsInts v.heap.size v (some ⟨b1, o1, none⟩) [(n : Int), (n : Int)] → IsInts v.heap.size v da1 dz1 → Calls Tryd.prog 5 #[.agg #[.bool false, .slice (some ⟨b1, o1, none⟩) 2 sc1, .slice da1 N dc1]] v fun e w' => e = .returned (.tuple #[.slice none 0 0, .iface 33 (.int .i64 9)]) ∧ Below v.heap.size v w') := fun v hs hv => by
    have h := ord_ok n hn (some ⟨b1, o1, none⟩) sc1 da1 dc1 dz1 N HN.out.2 HL1.out HK1.out v hs hv
    rw [HO.out] at h
    exact h
  clear hk1
  rw [HN.out.2]
  have n1 := Abx.new w (.bool false) (.slice (some ⟨b1, o1, none⟩) 2 sc1) (.slice da1 N dc1)
  go_enter Tryd.func3, Tryd.ntmps3
  go_wp2_with fail
  obtain ⟨wo2, hwo2⟩ : ∃ wo2, wo2 = (w.alloc (.cells #[.bool false, .slice (some ⟨b1, o1, none⟩) 2 sc1, .slice da1 N dc1] 24)) := ⟨_, rfl⟩
  rw [← hwo2]
  have z3 : w.heap.size + 1 ≤ wo2.heap.size := by rw [hwo2]; simp only [World.size_alloc]; omega
  have B4 : Hid (Abx wo2 (w.heap.size) (.bool false) (.slice (some ⟨b1, o1, none⟩) 2 sc1) (.slice da1 N dc1)) := by rw [hwo2]; exact n1
  have hb5 : Hid (Below w.heap.size w wo2) := by rw [hwo2]; exact ((Below.refl w.heap.size w).alloc (by omega) (.cells #[.bool false, .slice (some ⟨b1, o1, none⟩) 2 sc1, .slice da1 N dc1] 24))
  have zwo2 : w.heap.size ≤ wo2.heap.size := hb5.out.size
  clear hwo2 n1
  refine (chain_any _).mono ?_
  rintro e v1 ⟨rfl, hB⟩
  have z6 : wo2.heap.size ≤ v1.heap.size := hB.size
  have B7 : Hid (Abx v1 (w.heap.size) (.bool false) (.slice (some ⟨b1, o1, none⟩) 2 sc1) (.slice da1 N dc1)) := B4.out.go hB
  have hb8 : Hid (Below w.heap.size w v1) := hb5.out.trans (hB.mono hb5.out.size)
  clear hB hb5 B4
  have l9 := (B7.out).c0
  have l10 := (B7.out).c1
  have l11 := (B7.out).c2
  go_wp2_with fail
  clear l9 l10 l11
  refine (HP.out _ ((HI1.out.1.below hb8.out).mono hb8.out.size).1 ((HI1.out.2.1.below hb8.out).mono hb8.out.size).1).mono ?_
  rintro e v2 ⟨rfl, hB⟩
  have z12 : v1.heap.size ≤ v2.heap.size := hB.size
  have B13 : Hid (Abx v2 (w.heap.size) (.bool false) (.slice (some ⟨b1, o1, none⟩) 2 sc1) (.slice da1 N dc1)) := B7.out.go hB
  have hb14 : Hid (Below w.heap.size w v2) := hb8.out.trans (hB.mono hb8.out.size)
  clear hB hb8 B7
  have l15 := (B13.out).c0
  have l16 := (B13.out).c1
  have l17 := (B13.out).c2
  go_wp2_with fail
  clear l15 l16 l17
  refine (clo_ok n hn (some ⟨b1, o1, none⟩) sc1 da1 dc1 dz1 N HN.out.2 HL1.out HK1.out _ ((HI1.out.1.below hb14.out).mono hb14.out.size).1 ((HI1.out.2.1.below hb14.out).mono hb14.out.size).1).mono ?_
  rintro e v3 ⟨xa1, xc1, ya1, yc1, rfl, hX1, hY1, hB⟩
  have z18 : v2.heap.size ≤ v3.heap.size := hB.size
  have B19 : Hid (Abx v3 (w.heap.size) (.bool false) (.slice (some ⟨b1, o1, none⟩) 2 sc1) (.slice da1 N dc1)) := B13.out.go hB
  have hb20 : Hid (Below w.heap.size w v3) := hb14.out.trans (hB.mono hb14.out.size)
  have L21 : Hid (MidC (v2.heap.size) (v3.heap.size) v3 (xa1) ([(n : Int), (n : Int)]) (xc1)) := hX1.midc
  have L22 : Hid (MidC (v2.heap.size) (v3.heap.size) v3 (ya1) (clL n (clB (rdR n dz1) n)) (yc1)) := hY1.midc
  clear hB hb14 B13 hX1 hY1
  rw [HLp.out]
  have n23 := Abx.new v3 (.bool false) (.slice (xa1) 2 (xc1)) (.slice (ya1) (N) (yc1))
  have l24 := ((B19.out.al (.cells #[.bool false, .slice (xa1) 2 (xc1), .slice (ya1) (N) (yc1)] 24))).c0
  have l25 := ((B19.out.al (.cells #[.bool false, .slice (xa1) 2 (xc1), .slice (ya1) (N) (yc1)] 24))).c1
  have l26 := ((B19.out.al (.cells #[.bool false, .slice (xa1) 2 (xc1), .slice (ya1) (N) (yc1)] 24))).c2
  have l27 := HSh.out _ (hb20.out.alloc (by omega) (.cells #[.bool false, .slice (xa1) 2 (xc1), .slice (ya1) (N) (yc1)] 24))
  have l28 := (n23).c0
  have l29 := (n23).c1
  have l30 := (n23).c2
  go_wp2_with fail
  obtain ⟨wo31, hwo31⟩ : ∃ wo31, wo31 = (v3.alloc (.cells #[.bool false, .slice (xa1) 2 (xc1), .slice (ya1) (N) (yc1)] 24)) := ⟨_, rfl⟩
  rw [← hwo31]
  have z32 : v3.heap.size + 1 ≤ wo31.heap.size := by rw [hwo31]; simp only [World.size_alloc]; omega
  have B33 : Hid (Abx wo31 (w.heap.size) (.bool false) (.slice (some ⟨b1, o1, none⟩) 2 sc1) (.slice da1 N dc1)) := by rw [hwo31]; exact (B19.out.al (.cells #[.bool false, .slice (xa1) 2 (xc1), .slice (ya1) (N) (yc1)] 24))
  have B34 : Hid (Abx wo31 (v3.heap.size) (.bool false) (.slice (xa1) 2 (xc1)) (.slice (ya1) (N) (yc1))) := by rw [hwo31]; exact n23
  have L35 : Hid (MidC (v2.heap.size) (v3.heap.size) wo31 (xa1) ([(n : Int), (n : Int)]) (xc1)) := by rw [hwo31]; exact (L21.out.al (by omega) (.cells #[.bool false, .slice (xa1) 2 (xc1), .slice (ya1) (N) (yc1)] 24))
  have L36 : Hid (MidC (v2.heap.size) (v3.heap.size) wo31 (ya1) (clL n (clB (rdR n dz1) n)) (yc1)) := by rw [hwo31]; exact (L22.out.al (by omega) (.cells #[.bool false, .slice (xa1) 2 (xc1), .slice (ya1) (N) (yc1)] 24))
  have hb37 : Hid (Below w.heap.size w wo31) := by rw [hwo31]; exact (hb20.out.alloc (by omega) (.cells #[.bool false, .slice (xa1) 2 (xc1), .slice (ya1) (N) (yc1)] 24))
  have zwo31 : w.heap.size ≤ wo31.heap.size := hb37.out.size
  clear hwo31 n23 l24 l25 l26 l27 l28 l29 l30 hb20 B19 L21 L22
  obtain ⟨R, hR⟩ : ∃ R, R = rdR n dz1 := ⟨_, rfl⟩
  obtain ⟨D, hD⟩ : ∃ D, D = clL n (clB (rdR n dz1) n) := ⟨_, rfl⟩
  have LYD : Hid (MidC (v2.heap.size) (v3.heap.size) wo31 (ya1) D (yc1)) := by rw [hD]; exact L36.out
  have HD : Hid (D.length = N ∧ ∀ a, a < n → ∀ b, b < n → (nth D (a * n + b) = 1 ↔ clB R n a b = true)) := ⟨by rw [hD]; exact HLp.out, fun a ha b hb => by rw [hD, hR, clL_at _ ha hb]; exact bI_one⟩
  rw [← hR] at HCi
  clear hR hD
  have zl : v3.heap.size ≤ wo31.heap.size := by omega
  go_loopw [9, 10] (fun c q wr => wr = wo31 ∧ ∃ (i : Nat) (cb : Bool), i ≤ n ∧ q = .int .i64 (i : Nat) ∧ c = .bool cb ∧ Hid (cb = true ↔ ∃ a, a < i ∧ clB R n a a = true)) (fun _ q _ => n - (intOf q).toNat)
  case atStart => exact ⟨by first | trivial | rfl, 0, false, Nat.zero_le _, rfl, rfl, ⟨fun h => absurd h (by decide), fun ⟨a, h, _⟩ => absurd h (Nat.not_lt_zero _)⟩⟩
  case round =>
    obtain ⟨hwr, i, cb, hi, rfl, rfl, HCb⟩ := hrel
    obtain rfl := hwr.symm
    by_cases hil : i < n
    · obtain ⟨P, hP⟩ : ∃ P, P = i * n := ⟨_, rfl⟩
      have hPi : (i : Int) * (n : Int) = (P : Int) := by rw [hP]; simp
      have HPx : Hid (P = i * n ∧ P + n ≤ N) := ⟨hP, by rw [hP, HN.out.1, ← Nat.succ_mul]; exact Nat.mul_le_mul_right n hil⟩
      have hPm : P + n ≤ N := HPx.out.2
      clear hP
      have hPi2 : P + i < N := by omega
      have bx := B34.out.c2
      obtain ⟨_, _, rfl, _, _, x1, _⟩ := LYD.out.at (i := P + i) (by rw [HD.out.1]; exact hPi2)
      obtain ⟨x, hx⟩ : ∃ x, x = nth D (P + i) := ⟨_, rfl⟩
      rw [← hx] at x1
      have HX : Hid (x = 1 ↔ clB R n i i = true) := by show _ ↔ _; rw [hx, HPx.out.1]; exact HD.out.2 i hil i hil
      clear hx
      by_cases hx1 : x = 1
      · have t1 : (x == 1) = true := by simpa using hx1
        have HT : Hid (true = true ↔ ∃ a, a < i + 1 ∧ clB R n a a = true) := ⟨fun _ => ⟨i, by omega, HX.out.1 hx1⟩, fun _ => rfl⟩
        clear hx1 HX HCb
        go_wp2_with fail
        exact ⟨⟨by first | trivial | rfl, i + 1, true, by omega, by go_num, rfl, HT⟩, by simp [intOf]; omega⟩
      · have t1 : (x == 1) = false := by simpa using hx1
        have HT : Hid (cb = true ↔ ∃ a, a < i + 1 ∧ clB R n a a = true) := ⟨fun h => by obtain ⟨a, h1, h2⟩ := HCb.out.1 h; exact ⟨a, by omega, h2⟩, fun ⟨a, h1, h2⟩ => HCb.out.2 ⟨a, by
                by_cases e : a = i
                · rw [e] at h2; exact absurd (HX.out.2 h2) hx1
                · omega, h2⟩⟩
        clear hx1 HX HCb
        go_wp2_with fail
        exact ⟨⟨by first | trivial | rfl, i + 1, cb, by omega, by go_num, rfl, HT⟩, by simp [intOf]; omega⟩
    · obtain rfl : i = n := by omega
      have hcb : cb = true := HCb.out.2 HCi.out
      subst hcb
      clear HCb
      go_wp2_with fail
      refine (err_no15 9 (by decide) _ (HG.out.go hb37.out)).mono ?_
      rintro e v9 ⟨rfl, hB9⟩
      go_wp2_with fail
      go_ret
      exact ⟨rfl, hb37.out.trans (hB9.mono hb37.out.size)⟩
set_option maxRecDepth 100000 in
set_option maxHeartbeats 2000000 in
theorem ahea_some (p : List Nat) (n : Nat) (hn : n ≤ 24) (b1 o1 sc1 : Nat) (da1 : Option Addr) (dc1 : Nat) (dz1 : List Int) (HL1 : Hid (dz1.length = n * n)) (w : World) (HI1 : Hid (IsC w.heap.size w (some ⟨b1, o1, none⟩) [(n : Int), (n : Int)] sc1 ∧ IsC w.heap.size w da1 dz1 dc1 ∧ ∀ j, In64 (nth dz1 j))) (hg : HasErr w) (hk1 : mskB dz1 = true) (ho : tp (rdR n dz1) n n [] = some p) :
    Calls Tryd.prog 3 #[.agg #[.bool false, .slice (some ⟨b1, o1, none⟩) 2 sc1, .slice da1 dz1.length dc1]] w fun e w' => e = .returned (.bool true) ∧ Below w.heap.size w w' := by
  have HK1 : Hid (mskB dz1 = true) := hk1
  obtain ⟨N, hN⟩ : ∃ N, N = n * n := ⟨_, rfl⟩
  have N576 : N ≤ 576 := by have : n * n ≤ 24 * 24 := Nat.mul_le_mul hn hn; omega
  have HN : Hid (N = n * n ∧ dz1.length = N) := ⟨hN, by rw [HL1.out, hN]⟩
  clear hN
  have hmul : (n : Int) * (n : Int) = (N : Int) := by rw [HN.out.1]; simp
  have HSh : Hid (∀ v, Below w.heap.size w v → v.cell? ⟨b1, o1, none⟩ = some (.int .i64 (n : Int))) := fun v h => (shp14 HI1.out.1 h).2
  have HLp : Hid ((clL n (clB (rdR n dz1) n)).length = N) := by show _ = _; rw [clL_len, HN.out.1]
  have HG : Hid (HasErr w) := hg
  have HO : Hid (tp (rdR n dz1) n n [] = some p) := ho
  have HPl : Hid (Ahd (rdR n dz1) n p ∧ p.length = n) := by have h := tp_some (Ahd.nil (R := rdR n dz1) (n := n)) ho; exact ⟨h.1, by simpa using h.2⟩
  clear ho hg
  have HP : Hid (∀ v, IsInts v.heap.size v (some ⟨b1, o1, none⟩) [(n : Int), (n : Int)] → IsInts v.heap.size v da1 dz1 → Calls Tryd.prog 5 #[.agg #[.bool false, .slice (some ⟨b1, o1, none⟩) 2 sc1, .slice da1 N dc1]] v fun e w' => ∃ xa, e = .returned (.tuple #[.slice xa n n, .nilIface]) ∧ NewC v.heap.size w' xa (inL p) n ∧ Below v.heap.size v w') := fun v hs hv => by
    have h := ord_ok n hn (some ⟨b1, o1, none⟩) sc1 da1 dc1 dz1 N HN.out.2 HL1.out HK1.out v hs hv
    rw [HO.out] at h
    exact h
  clear hk1
  rw [HN.out.2]
  have n1 := Abx.new w (.bool false) (.slice (some ⟨b1, o1, none⟩) 2 sc1) (.slice da1 N dc1)
  go_enter Tryd.func3, Tryd.ntmps3
  go_wp2_with fail
  obtain ⟨wo2, hwo2⟩ : ∃ wo2, wo2 = (w.alloc (.cells #[.bool false, .slice (some ⟨b1, o1, none⟩) 2 sc1, .slice da1 N dc1] 24)) := ⟨_, rfl⟩
  rw [← hwo2]
  have z3 : w.heap.size + 1 ≤ wo2.heap.size := by rw [hwo2]; simp only [World.size_alloc]; omega
  have B4 : Hid (Abx wo2 (w.heap.size) (.bool false) (.slice (some ⟨b1, o1, none⟩) 2 sc1) (.slice da1 N dc1)) := by rw [hwo2]; exact n1
  have hb5 : Hid (Below w.heap.size w wo2) := by rw [hwo2]; exact ((Below.refl w.heap.size w).alloc (by omega) (.cells #[.bool false, .slice (some ⟨b1, o1, none⟩) 2 sc1, .slice da1 N dc1] 24))
  have zwo2 : w.heap.size ≤ wo2.heap.size := hb5.out.size
  clear hwo2 n1
  refine (chain_any _).mono ?_
  rintro e v1 ⟨rfl, hB⟩
  have z6 : wo2.heap.size ≤ v1.heap.size := hB.size
  have B7 : Hid (Abx v1 (w.heap.size) (.bool false) (.slice (some ⟨b1, o1, none⟩) 2 sc1) (.slice da1 N dc1)) := B4.out.go hB
  have hb8 : Hid (Below w.heap.size w v1) := hb5.out.trans (hB.mono hb5.out.size)
  clear hB hb5 B4
  have l9 := (B7.out).c0
  have l10 := (B7.out).c1
  have l11 := (B7.out).c2
  go_wp2_with fail
  clear l9 l10 l11
  refine (HP.out _ ((HI1.out.1.below hb8.out).mono hb8.out.size).1 ((HI1.out.2.1.below hb8.out).mono hb8.out.size).1).mono ?_
  rintro e v2 ⟨xa4, rfl, hX4, hB⟩
  have z12 : v1.heap.size ≤ v2.heap.size := hB.size
  have B13 : Hid (Abx v2 (w.heap.size) (.bool false) (.slice (some ⟨b1, o1, none⟩) 2 sc1) (.slice da1 N dc1)) := B7.out.go hB
  have hb14 : Hid (Below w.heap.size w v2) := hb8.out.trans (hB.mono hb8.out.size)
  have L15 : Hid (MidC (v1.heap.size) (v2.heap.size) v2 (xa4) (inL p) (n)) := hX4.midc
  clear hB hb8 B7 hX4
  have l16 := (B13.out).c0
  have l17 := (B13.out).c1
  have l18 := (B13.out).c2
  go_wp2_with fail
  clear l16 l17 l18
  refine (clo_ok n hn (some ⟨b1, o1, none⟩) sc1 da1 dc1 dz1 N HN.out.2 HL1.out HK1.out _ ((HI1.out.1.below hb14.out).mono hb14.out.size).1 ((HI1.out.2.1.below hb14.out).mono hb14.out.size).1).mono ?_
  rintro e v3 ⟨xa1, xc1, ya1, yc1, rfl, hX1, hY1, hB⟩
  have z19 : v2.heap.size ≤ v3.heap.size := hB.size
  have B20 : Hid (Abx v3 (w.heap.size) (.bool false) (.slice (some ⟨b1, o1, none⟩) 2 sc1) (.slice da1 N dc1)) := B13.out.go hB
  have L21 : Hid (MidC (v1.heap.size) (v2.heap.size) v3 (xa4) (inL p) (n)) := L15.out.go (by omega) hB
  have hb22 : Hid (Below w.heap.size w v3) := hb14.out.trans (hB.mono hb14.out.size)
  have L23 : Hid (MidC (v2.heap.size) (v3.heap.size) v3 (xa1) ([(n : Int), (n : Int)]) (xc1)) := hX1.midc
  have L24 : Hid (MidC (v2.heap.size) (v3.heap.size) v3 (ya1) (clL n (clB (rdR n dz1) n)) (yc1)) := hY1.midc
  clear hB hb14 B13 L15 hX1 hY1
  rw [HLp.out]
  have n25 := Abx.new v3 (.bool false) (.slice (xa1) 2 (xc1)) (.slice (ya1) (N) (yc1))
  have l26 := ((B20.out.al (.cells #[.bool false, .slice (xa1) 2 (xc1), .slice (ya1) (N) (yc1)] 24))).c0
  have l27 := ((B20.out.al (.cells #[.bool false, .slice (xa1) 2 (xc1), .slice (ya1) (N) (yc1)] 24))).c1
  have l28 := ((B20.out.al (.cells #[.bool false, .slice (xa1) 2 (xc1), .slice (ya1) (N) (yc1)] 24))).c2
  have l29 := HSh.out _ (hb22.out.alloc (by omega) (.cells #[.bool false, .slice (xa1) 2 (xc1), .slice (ya1) (N) (yc1)] 24))
  have l30 := (n25).c0
  have l31 := (n25).c1
  have l32 := (n25).c2
  go_wp2_with fail
  obtain ⟨wo33, hwo33⟩ : ∃ wo33, wo33 = (v3.alloc (.cells #[.bool false, .slice (xa1) 2 (xc1), .slice (ya1) (N) (yc1)] 24)) := ⟨_, rfl⟩
  rw [← hwo33]
  have z34 : v3.heap.size + 1 ≤ wo33.heap.size := by rw [hwo33]; simp only [World.size_alloc]; omega
  have B35 : Hid (Abx wo33 (w.heap.size) (.bool false) (.slice (some ⟨b1, o1, none⟩) 2 sc1) (.slice da1 N dc1)) := by rw [hwo33]; exact (B20.out.al (.cells #[.bool false, .slice (xa1) 2 (xc1), .slice (ya1) (N) (yc1)] 24))
  have B36 : Hid (Abx wo33 (v3.heap.size) (.bool false) (.slice (xa1) 2 (xc1)) (.slice (ya1) (N) (yc1))) := by rw [hwo33]; exact n25
  have L37 : Hid (MidC (v1.heap.size) (v2.heap.size) wo33 (xa4) (inL p) (n)) := by rw [hwo33]; exact (L21.out.al (by omega) (.cells #[.bool false, .slice (xa1) 2 (xc1), .slice (ya1) (N) (yc1)] 24))
  have L38 : Hid (MidC (v2.heap.size) (v3.heap.size) wo33 (xa1) ([(n : Int), (n : Int)]) (xc1)) := by rw [hwo33]; exact (L23.out.al (by omega) (.cells #[.bool false, .slice (xa1) 2 (xc1), .slice (ya1) (N) (yc1)] 24))
  have L39 : Hid (MidC (v2.heap.size) (v3.heap.size) wo33 (ya1) (clL n (clB (rdR n dz1) n)) (yc1)) := by rw [hwo33]; exact (L24.out.al (by omega) (.cells #[.bool false, .slice (xa1) 2 (xc1), .slice (ya1) (N) (yc1)] 24))
  have hb40 : Hid (Below w.heap.size w wo33) := by rw [hwo33]; exact (hb22.out.alloc (by omega) (.cells #[.bool false, .slice (xa1) 2 (xc1), .slice (ya1) (N) (yc1)] 24))
  have zwo33 : w.heap.size ≤ wo33.heap.size := hb40.out.size
  clear hwo33 n25 l26 l27 l28 l29 l30 l31 l32 hb22 B20 L21 L23 L24
  obtain ⟨R, hR⟩ : ∃ R, R = rdR n dz1 := ⟨_, rfl⟩
  obtain ⟨D, hD⟩ : ∃ D, D = clL n (clB (rdR n dz1) n) := ⟨_, rfl⟩
  have LYD : Hid (MidC (v2.heap.size) (v3.heap.size) wo33 (ya1) D (yc1)) := by rw [hD]; exact L39.out
  have HD : Hid (D.length = N ∧ ∀ a, a < n → ∀ b, b < n → (nth D (a * n + b) = 1 ↔ clB R n a b = true)) := ⟨by rw [hD]; exact HLp.out, fun a ha b hb => by rw [hD, hR, clL_at _ ha hb]; exact bI_one⟩
  rw [← hR] at HPl
  clear hR hD
  have zl : v3.heap.size ≤ wo33.heap.size := by omega
  go_loopw [9, 10] (fun c q wr => wr = wo33 ∧ ∃ (i : Nat) (cb : Bool), i ≤ n ∧ q = .int .i64 (i : Nat) ∧ c = .bool cb ∧ Hid (cb = true ↔ ∃ a, a < i ∧ clB R n a a = true)) (fun _ q _ => n - (intOf q).toNat)
  case atStart => exact ⟨by first | trivial | rfl, 0, false, Nat.zero_le _, rfl, rfl, ⟨fun h => absurd h (by decide), fun ⟨a, h, _⟩ => absurd h (Nat.not_lt_zero _)⟩⟩
  case round =>
    obtain ⟨hwr, i, cb, hi, rfl, rfl, HCb⟩ := hrel
    obtain rfl := hwr.symm
    by_cases hil : i < n
    · obtain ⟨P, hP⟩ : ∃ P, P = i * n := ⟨_, rfl⟩
      have hPi : (i : Int) * (n : Int) = (P : Int) := by rw [hP]; simp
      have HPx : Hid (P = i * n ∧ P + n ≤ N) := ⟨hP, by rw [hP, HN.out.1, ← Nat.succ_mul]; exact Nat.mul_le_mul_right n hil⟩
      have hPm : P + n ≤ N := HPx.out.2
      clear hP
      have hPi2 : P + i < N := by omega
      have bx := B36.out.c2
      obtain ⟨_, _, rfl, _, _, x1, _⟩ := LYD.out.at (i := P + i) (by rw [HD.out.1]; exact hPi2)
      obtain ⟨x, hx⟩ : ∃ x, x = nth D (P + i) := ⟨_, rfl⟩
      rw [← hx] at x1
      have HX : Hid (x = 1 ↔ clB R n i i = true) := by show _ ↔ _; rw [hx, HPx.out.1]; exact HD.out.2 i hil i hil
      clear hx
      by_cases hx1 : x = 1
      · have t1 : (x == 1) = true := by simpa using hx1
        have HT : Hid (true = true ↔ ∃ a, a < i + 1 ∧ clB R n a a = true) := ⟨fun _ => ⟨i, by omega, HX.out.1 hx1⟩, fun _ => rfl⟩
        clear hx1 HX HCb
        go_wp2_with fail
        exact ⟨⟨by first | trivial | rfl, i + 1, true, by omega, by go_num, rfl, HT⟩, by simp [intOf]; omega⟩
      · have t1 : (x == 1) = false := by simpa using hx1
        have HT : Hid (cb = true ↔ ∃ a, a < i + 1 ∧ clB R n a a = true) := ⟨fun h => by obtain ⟨a, h1, h2⟩ := HCb.out.1 h; exact ⟨a, by omega, h2⟩, fun ⟨a, h1, h2⟩ => HCb.out.2 ⟨a, by
                by_cases e : a = i
                · rw [e] at h2; exact absurd (HX.out.2 h2) hx1
                · omega, h2⟩⟩
        clear hx1 HX HCb
        go_wp2_with fail
        exact ⟨⟨by first | trivial | rfl, i + 1, cb, by omega, by go_num, rfl, HT⟩, by simp [intOf]; omega⟩
    · obtain rfl : i = n := by omega
      have hcb : cb = false := by
        cases cb
        · rfl
        · obtain ⟨a, h1, h2⟩ := HCb.out.1 rfl
          exact absurd h2 (HPl.out.1.none (all_in15 HPl.out.1 HPl.out.2 h1))
      subst hcb
      clear HCb
      obtain ⟨C, hC⟩ : ∃ C, C = inL p := ⟨_, rfl⟩
      have LCC : Hid (MidC (v1.heap.size) (v2.heap.size) wo33 (xa4) C (i)) := by rw [hC]; exact L37.out
      have HC : Hid (C.length = i ∧ ordB C = true ∧ ∀ a, a < i → nth C a = ((p.getD a 0 : Nat) : Int)) := ⟨by rw [hC, inL_len, HPl.out.2], by rw [hC]; exact ord_in15 HPl.out.1 HPl.out.2, fun a ha => by rw [hC, inL_nth (by rw [HPl.out.2]; exact ha)]⟩
      have zc : v2.heap.size ≤ wo33.heap.size := by omega
      clear hC
      skip
      have hPm := perm_any (xa4) i C (by rw [HC.out.1]; omega) wo33.heap.size wo33 (LCC.out.is zc).1
      rw [HC.out.1, HC.out.2.1] at hPm
      go_wp2_with fail
      refine hPm.mono ?_
      rintro e v9 ⟨rfl, hB9⟩
      have HB9 : Hid (Below wo33.heap.size wo33 v9) := hB9
      clear hPm hB9
      go_wp2_with fail
      go_loopw [13] (fun q wr => Below wo33.heap.size wo33 wr ∧ ∃ s : Nat, s ≤ i ∧ q = .int .i64 (s : Nat)) (fun q _ => i - (intOf q).toNat)
      case atStart => exact ⟨HB9.out, 0, Nat.zero_le _, rfl⟩
      case round =>
        clear HB9
        obtain ⟨hB, s, hs, rfl⟩ := hrel
        by_cases hsl : s < i
        · have isl : (s : Int) < (i : Int) := by omega
          go_wp2_with fail
          go_loopw [14] (fun q wr => Below wo33.heap.size wo33 wr ∧ ∃ u : Nat, u ≤ s + 1 ∧ q = .int .i64 (u : Nat)) (fun q _ => s + 1 - (intOf q).toNat)
          case atStart => exact ⟨hB, 0, Nat.zero_le _, rfl⟩
          case round =>
            clear hB
            obtain ⟨hB, u, hu, rfl⟩ := hrel
            by_cases hul : u ≤ s
            · have iul : (u : Int) < (i : Int) := by omega
              obtain ⟨A1, hA1⟩ : ∃ x, x = p.getD s 0 := ⟨_, rfl⟩
              obtain ⟨A2, hA2⟩ : ∃ x, x = p.getD u 0 := ⟨_, rfl⟩
              have c0 := LCC.out.go zc hB
              obtain ⟨bc, oc, hbc, _, _, c1, _⟩ := c0.at (i := s) (by rw [HC.out.1]; exact hsl)
              obtain ⟨_, _, e2, _, _, c2, _⟩ := c0.at (i := u) (by rw [HC.out.1]; omega)
              subst hbc
              cases e2
              rw [HC.out.2.2 s hsl, ← hA1] at c1
              rw [HC.out.2.2 u (by omega), ← hA2] at c2
              clear c0
              have hA1n : A1 < i := by rw [hA1]; exact HPl.out.1.low _ (getD_mem (by rw [HPl.out.2]; exact hsl))
              have hA2n : A2 < i := by rw [hA2]; exact HPl.out.1.low _ (getD_mem (by rw [HPl.out.2]; omega))
              obtain ⟨P, hP⟩ : ∃ P, P = A1 * i := ⟨_, rfl⟩
              have hPi : (A1 : Int) * (i : Int) = (P : Int) := by rw [hP]; simp
              have hPN : P + A2 < N := by rw [hP, HN.out.1]; exact row_lt hA1n hA2n
              have bx := (B36.out.go hB).c2
              obtain ⟨I0, hI0⟩ : ∃ I0 : Nat, I0 = P + A2 := ⟨_, rfl⟩
              have hPb : P ≤ 576 := by omega
              have hw1 : IntKind.i64.wrap (P : Int) = (P : Int) := by rw [IntWalk.i64_left]; exact w_small (by omega) (by omega)
              have hw2 : IntKind.i64.wrap ((P : Int) + (A2 : Int)) = (I0 : Int) := by rw [IntWalk.i64_left, show ((P : Int) + (A2 : Int)) = (I0 : Int) by omega]; exact w_small (by omega) (by omega)
              have hI1 : I0 < N := by omega
              have hI2 : (I0 : Int) < (N : Int) := by omega
              have x0 := LYD.out.go zl hB
              obtain ⟨_, _, rfl, _, _, x1, _⟩ := x0.at (i := I0) (by rw [HD.out.1]; exact hI1)
              obtain ⟨x, hx⟩ : ∃ x, x = nth D I0 := ⟨_, rfl⟩
              rw [← hx] at x1
              have t1 : (x == 1) = false := by
                refine beq_false_of_ne fun e => ?_
                rw [hx, hI0, hP] at e
                have h := (HD.out.2 A1 hA1n A2 hA2n).1 e
                rw [hA1, hA2] at h
                have := HPl.out.1.less (by rw [HPl.out.2]; exact hsl) (by rw [HPl.out.2]; omega) h
                omega
              clear hx hI0 hP hA1 hA2 x0 hPN
              go_wp2_with fail
              go_quiet (fail)
              go_wp2_with fail
              exact ⟨⟨bel_drewN hB _, u + 1, by omega, by go_num⟩, by simp [intOf]; omega⟩
            · obtain rfl : u = s + 1 := by omega
              go_wp2_with fail
              exact ⟨⟨hB, s + 1, by omega, by go_num⟩, by simp [intOf]; omega⟩
        · obtain rfl : s = i := by omega
          go_wp2_with fail
          go_ret
          exact ⟨rfl, hb40.out.trans (hB.mono hb40.out.size)⟩
theorem rahea_walk (c1 : Bool) (sa1 : Option Addr) (sc1 : Nat) (sz1 : List Int) (da1 : Option Addr) (dc1 : Nat) (dz1 : List Int) (w : World) (hg : HasErr w) (w8 : IsArrD w sa1 sz1 sc1 da1 dz1 dc1) :
    Calls Tryd.prog 3 #[.agg #[.bool c1, .slice sa1 sz1.length sc1, .slice da1 dz1.length dc1]] w fun e w' => e = .returned (.bool true) ∧ Below w.heap.size w w' := by
  by_cases h1 : rlE c1 sz1 dz1 = 0
  · obtain ⟨n, hn, rfl, hl1, rfl, hk1⟩ := rl_is h1
    obtain ⟨b1, o1, rfl⟩ := opn14 w8.2.2.1
    rcases ho : tp (rdR n dz1) n n [] with _ | p
    · exact ahea_none n hn b1 o1 sc1 da1 dc1 dz1 hl1 w ⟨w8.2.2.1, w8.2.2.2.1, w8.2.2.2.2.2⟩ hg hk1 ho
    · exact ahea_some p n hn b1 o1 sc1 da1 dc1 dz1 hl1 w ⟨w8.2.2.1, w8.2.2.2.1, w8.2.2.2.2.2⟩ hg hk1 ho
  · exact ahea_no c1 sa1 sc1 sz1 da1 dc1 dz1 w hg w8 h1
end Go.Proofs.YtgaelbgeoobgiabDoor
