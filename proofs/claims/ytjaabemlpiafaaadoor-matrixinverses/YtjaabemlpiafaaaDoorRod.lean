/-
  The reference's inverse of an odd number, bit by bit, and of a matrix.
-/
import Derived.Test.YtjaabemlpiafaaaDoorRad
import Derived.Test.YtjaabemlpiafaaaDoorMtv
namespace Go.Proofs.YtjaabemlpiafaaaDoor
open Go.RowKit
set_option linter.unusedVariables false

/-- The inverse of an odd number, so many bits of it. -/
def odX (d : Int) : Nat → Int
  | 0 => 0
  | i + 1 => if (odX d i * d - 1) % 18446744073709551616 / 2 ^ i % 2 = 1 then odX d i + 2 ^ i else odX d i
theorem pow_i (i : Nat) : (0 : Int) < 2 ^ i := Int.pow_pos (by decide)
theorem od_bit {r q : Int} {i : Nat} (hi : i < 64) (h : r = 2 ^ i * q) : r % 18446744073709551616 / 2 ^ i % 2 = q % 2 := by
  obtain ⟨k, hk⟩ : ∃ k, r % 18446744073709551616 = r - 18446744073709551616 * k := ⟨r / 18446744073709551616, by omega⟩
  have e : (18446744073709551616 : Int) = 2 ^ i * (2 * 2 ^ (63 - i)) := by
    have h1 : (18446744073709551616 : Int) = 2 ^ (i + (63 - i + 1)) := by rw [show i + (63 - i + 1) = 64 by omega]; rfl
    rw [h1, Int.pow_add, Int.pow_succ, Int.mul_comm (2 ^ (63 - i)) 2]
  rw [hk, e, h, Int.mul_assoc, ← Int.mul_sub, Int.mul_ediv_cancel_left _ (by have := pow_i i; omega)]
  rw [Int.mul_assoc]
  generalize (2 : Int) ^ (63 - i) * k = t
  omega
theorem od_ok {d : Int} (hd : d % 2 = 1) : ∀ i, i ≤ 64 → 0 ≤ odX d i ∧ odX d i < 2 ^ i ∧ ∃ q, odX d i * d - 1 = 2 ^ i * q
  | 0, _ => ⟨Int.le_refl _, by show (0 : Int) < 2 ^ 0; decide, -1, by show 0 * d - 1 = _; rw [Int.zero_mul, Int.pow_zero]; omega⟩
  | i + 1, hi => by
    obtain ⟨h1, h2, q, hq⟩ := od_ok hd i (by omega)
    obtain ⟨r, hr⟩ : ∃ r, d = 2 * r + 1 := ⟨d / 2, by omega⟩
    have hp := pow_i i
    have hs : (2 : Int) ^ (i + 1) = 2 * 2 ^ i := by rw [Int.pow_succ, Int.mul_comm]
    rw [odX, od_bit (by omega) hq, hs]
    generalize (2 : Int) ^ i = t at *
    generalize odX d i = x at *
    by_cases h : q % 2 = 1
    · rw [if_pos h]
      obtain ⟨p, hp2⟩ : ∃ p, q = 2 * p + 1 := ⟨q / 2, by omega⟩
      refine ⟨by omega, by omega, p + r + 1, ?_⟩
      rw [Int.add_mul, show x * d + t * d - 1 = (x * d - 1) + t * d by omega, hq, hp2, hr]
      grind
    · rw [if_neg h]
      obtain ⟨p, hp2⟩ : ∃ p, q = 2 * p := ⟨q / 2, by omega⟩
      refine ⟨by omega, by omega, p, ?_⟩
      rw [hq, hp2]
      grind
theorem od_is {d : Int} (hd : d % 2 = 1) : wrap64 (odX d 64) = rcI d 5 := by
  have h1 : cg (odX d 64 * d) 1 := cg_one (od_ok hd 64 (Nat.le_refl _)).2.2
  have h2 : cg (rcI d 5 * d) 1 := rc_odd hd
  have h3 : cg (odX d 64 * (rcI d 5 * d)) (odX d 64 * 1) := cg.mul (cg.rfl' _) h2
  have h4 : cg (rcI d 5 * (odX d 64 * d)) (rcI d 5 * 1) := cg.mul (cg.rfl' _) h1
  rw [Int.mul_one] at h3 h4
  have h5 : cg (odX d 64) (rcI d 5) := h3.symm.trans (by rw [show odX d 64 * (rcI d 5 * d) = rcI d 5 * (odX d 64 * d) by grind]; exact h4)
  unfold cg at h5
  rw [h5]
  show wrap64 (wrap64 _) = wrap64 _
  exact w_w _
/-- A list whose first so many numbers are multiplied. -/
def sc14 (L : List Int) (b : Int) (k : Nat) : List Int := (List.range L.length).map fun p => if p < k then wrap64 (nth L p * b) else nth L p
theorem sc_len (L : List Int) (b : Int) (k : Nat) : (sc14 L b k).length = L.length := by simp [sc14]
theorem sc_nth {L : List Int} {b : Int} {k p : Nat} (h : p < L.length) : nth (sc14 L b k) p = if p < k then wrap64 (nth L p * b) else nth L p := by
  rw [nth_get _ _ (by rw [sc_len]; exact h)]
  simp [sc14]
theorem sc_zero (L : List Int) (b : Int) : sc14 L b 0 = L := by
  refine List.ext_getElem (sc_len _ _ _) fun p h1 h2 => ?_
  rw [← nth_get _ _ h1, sc_nth h2, if_neg (by omega), nth_get _ _ h2]
theorem sc_next {L : List Int} {b : Int} {k : Nat} (h : k < L.length) : (sc14 L b k).set k (wrap64 (nth L k * b)) = sc14 L b (k + 1) := by
  refine List.ext_getElem (by rw [List.length_set, sc_len, sc_len]) fun p h1 h2 => ?_
  have hp : p < L.length := by rw [sc_len] at h2; exact h2
  rw [List.getElem_set, ← nth_get _ _ h2, sc_nth hp]
  by_cases e : k = p
  · rw [if_pos e, if_pos (by omega), e]
  · rw [if_neg e, ← nth_get _ _ (by rw [sc_len]; exact hp), sc_nth hp]
    by_cases q : p < k
    · rw [if_pos q, if_pos (by omega)]
    · rw [if_neg q, if_neg (by omega)]
theorem sc_all (n : Nat) (F : Mx) (b : Int) : sc14 (cls n F) b (n * n) = cls n fun i j => wrap64 (F i j * b) := by
  refine List.ext_getElem (by rw [sc_len, cls_len, cls_len]) fun p h1 h2 => ?_
  have hp : p < n * n := by rw [cls_len] at h2; exact h2
  rw [← nth_get _ _ h1, ← nth_get _ _ h2, sc_nth (by rw [cls_len]; exact hp), if_pos hp, cls_nth _ hp, cls_nth _ hp]
set_option maxRecDepth 100000 in
set_option maxHeartbeats 1000000 in
theorem odd_ref (d : Int) (hod : d % 2 = 1) (w : World) :
    Calls Tryd.prog 37 #[.int .i64 d] w fun e w' => e = .returned (.int .i64 (rcI d 5)) ∧ w' = w := by
  have HO : Hid (d % 2 = 1) := hod
  clear hod
  go_enter Tryd.func37, Tryd.ntmps37
  go_wp2_with fail
  go_loopw [3, 4] (fun x i wr => ∃ I : Nat, I ≤ 64 ∧ i = .int .i64 I ∧ x = .int .u64 (odX d I) ∧ wr = w) (fun _ i _ => 64 - (intOf i).toNat)
  case atStart => exact ⟨0, Nat.zero_le _, rfl, rfl, rfl⟩
  case round =>
    obtain ⟨I, hI, rfl, rfl, hwr⟩ := hrel
    obtain rfl := hwr.symm
    clear hwr
    by_cases hlt : I < 64
    · obtain ⟨k1, k2, k3⟩ := od_ok HO.out I hI
      obtain ⟨X, hX⟩ : ∃ X, X = odX d I := ⟨_, rfl⟩
      rw [← hX] at k1 k2 k3 ⊢
      obtain ⟨D, hx1⟩ : ∃ x, IntKind.u64.wrap d = x := ⟨_, rfl⟩
      obtain ⟨M1, hx2⟩ : ∃ x, IntKind.u64.wrap (X * D) = x := ⟨_, rfl⟩
      obtain ⟨M2, hx3⟩ : ∃ x, IntKind.u64.wrap (M1 - 1) = x := ⟨_, rfl⟩
      have e2 : M2 = (X * d - 1) % 18446744073709551616 := by
        rw [← hx3, ← hx2, ← hx1, IntKind.wrap_u64, IntKind.wrap_u64, IntKind.wrap_u64, Int.sub_emod, Int.emod_emod, ← Int.sub_emod, Int.sub_emod, Int.mul_emod, Int.emod_emod, ← Int.mul_emod, ← Int.sub_emod]
      obtain ⟨T, hT⟩ : ∃ T, (2 : Int) ^ I = T := ⟨_, rfl⟩
      have T0 : 0 < T := by rw [← hT]; exact pow_i I
      have T1 : T * 2 ≤ 18446744073709551616 := by
        rw [← hT, ← Int.pow_succ, show (2 : Int) ^ (I + 1) = ((2 ^ (I + 1) : Nat) : Int) by simp]
        exact Int.ofNat_le.2 (Nat.pow_le_pow_right (show 0 < 2 by decide) (show I + 1 ≤ 64 by omega))
      have t3 : (M2 / T).tmod 2 = M2 / T % 2 := Int.tmod_eq_emod_of_nonneg (Int.ediv_nonneg (by rw [e2]; exact Int.emod_nonneg _ (by decide)) (by omega))
      have HS : Hid (odX d (I + 1) = if M2 / T % 2 = 1 then X + T else X) := by show _ = _; rw [odX, ← hX, hT, ← e2]
      rw [hT] at k2
      have hw1 : IntKind.u64.wrap T = T := by rw [IntKind.wrap_u64]; omega
      have hw2 : IntKind.u64.wrap (X + T) = X + T := by rw [IntKind.wrap_u64]; omega
      clear hX e2 k3
      by_cases hb : M2 / T % 2 = 1
      · have tb : ((M2 / T).tmod 2 == 1) = true := by rw [t3, hb]; rfl
        have HS2 : Hid (odX d (I + 1) = X + T) := by show _ = _; rw [HS.out, if_pos hb]
        clear hb t3 HS
        go_wp2_with fail
        exact ⟨⟨I + 1, by omega, by go_num, by rw [HS2.out], trivial⟩, by simp [intOf]; omega⟩
      · have tb : ((M2 / T).tmod 2 == 1) = false := by rw [t3]; simpa using hb
        have HS2 : Hid (odX d (I + 1) = X) := by show _ = _; rw [HS.out, if_neg hb]
        clear hb t3 HS
        go_wp2_with fail
        exact ⟨⟨I + 1, by omega, by go_num, by rw [HS2.out], trivial⟩, by simp [intOf]; omega⟩
    · obtain rfl : I = 64 := by omega
      have HV := od_is HO.out
      go_wp2_with fail
      go_ret
      exact ⟨by rw [← HV]; rfl, rfl⟩
set_option maxRecDepth 100000 in
set_option maxHeartbeats 1000000 in
theorem inver_ref (n : Nat) (hn : n ≤ 6) (N : Nat) (hN : N = n * n) (da : Option Addr) (dc : Nat) (dz : List Int) (hl : dz.length = N) (hod : wrap64 (dt n (rdg n dz)) % 2 = 1) (w : World) (hI : IsInts w.heap.size w da dz) :
    Calls Tryd.prog 20 #[.int .i64 (n : Nat), .slice da N dc] w (LnC (vI n dz) N w) := by
  have N36 : N ≤ 36 := by have : n * n ≤ 6 * 6 := Nat.mul_le_mul hn hn; omega
  have hA := adjug_ref n hn N hN da dc dz hl w hI
  obtain ⟨d, hd⟩ : ∃ d, d = wrap64 (dt n (rdg n dz)) := ⟨_, rfl⟩
  rw [← hd] at hod
  obtain ⟨by0, hby⟩ : ∃ b, b = rcI d 5 := ⟨_, rfl⟩
  obtain ⟨Q, hQ⟩ : ∃ Q, Q = cls n (ajg n (rdg n dz)) := ⟨_, rfl⟩
  have HV : Hid (vI n dz = sc14 Q by0 N ∧ Q.length = N) := ⟨by rw [hQ, hN, sc_all, hby, hd]; rfl, by rw [hQ, cls_len, hN]⟩
  rw [HV.out.1]
  rw [← hQ] at hA
  have HD : Hid (∀ v, Below w.heap.size w v → Calls Tryd.prog 8 #[.int .i64 (n : Nat), .slice da N dc] v fun e w' => e = .returned (.int .i64 d) ∧ Below v.heap.size v w') := fun v hv => by
    rw [hd]
    exact det_ref n hn N hN da dc dz hl v ((hI.below hv).mono hv.size)
  have HO : Hid (∀ v, Calls Tryd.prog 37 #[.int .i64 d] v fun e w' => e = .returned (.int .i64 by0) ∧ w' = v) := fun v => by rw [hby]; exact odd_ref d hod v
  clear hI hN hl hd hby hQ hod
  go_enter Tryd.func20, Tryd.ntmps20
  go_wp2_with fail
  refine hA.mono ?_
  rintro e w1 ⟨g, c, rfl, hX, hB⟩
  have HX : Hid (MidC w.heap.size w1.heap.size w1 g Q c ∧ Below w.heap.size w w1) := ⟨hX.midc, hB⟩
  have hD := HD.out w1 hB
  clear hX hB hA HD
  go_wp2_with fail
  refine hD.mono ?_
  rintro e w2 ⟨rfl, hB⟩
  have HX2 : Hid (MidC w.heap.size w1.heap.size w2 g (sc14 Q by0 0) c ∧ Below w.heap.size w w2 ∧ w1.heap.size ≤ w2.heap.size) := by
    show _ ∧ _
    rw [sc_zero]
    exact ⟨HX.out.1.go (Nat.le_refl _) hB, HX.out.2.trans (hB.mono HX.out.2.size), hB.size⟩
  have hO := HO.out w2
  clear hD hB HX HO
  go_wp2_with fail
  refine hO.mono ?_
  rintro e w3 ⟨rfl, hw3⟩
  obtain rfl := hw3.symm
  clear hO hw3
  go_wp2_with fail
  go_loopw [7] (fun i wr => ∃ I : Nat, I ≤ N ∧ i = .int .i64 I ∧ MidC w.heap.size w1.heap.size wr g (sc14 Q by0 I) c ∧ Below w.heap.size w wr ∧ w1.heap.size ≤ wr.heap.size) (fun i _ => N - (intOf i).toNat)
  case atStart => exact ⟨0, Nat.zero_le _, rfl, HX2.out⟩
  case round =>
    clear HX2
    obtain ⟨I, hI, rfl, hQ⟩ := hrel
    have HQ : Hid (MidC w.heap.size w1.heap.size wr g (sc14 Q by0 I) c ∧ Below w.heap.size w wr ∧ w1.heap.size ≤ wr.heap.size) := hQ
    clear hQ
    by_cases hlt : I < N
    · have hIQ : I < Q.length := by rw [HV.out.2]; exact hlt
      obtain ⟨b', o', rfl, m1, m2, m3, m4⟩ := HQ.out.1.at (i := I) (by rw [sc_len]; exact hIQ)
      rw [sc_nth hIQ, if_neg (Nat.lt_irrefl I)] at m3
      obtain ⟨y, hy⟩ : ∃ y, y = nth Q I := ⟨_, rfl⟩
      obtain ⟨z, hz⟩ : ∃ z, IntKind.i64.wrap (y * by0) = z := ⟨_, rfl⟩
      have hz2 : wrap64 (y * by0) = z := by rw [← hz, IntWalk.i64_left]
      have HZ : Hid ((sc14 Q by0 I).set I z = sc14 Q by0 (I + 1)) := by show _ = _; rw [← hz2, hy]; exact sc_next hIQ
      have HIQ : Hid (I < (sc14 Q by0 I).length) := by show _ < _; rw [sc_len]; exact hIQ
      rw [← hy] at m3
      clear hy hIQ
      go_upto_region 5 with fail
      obtain ⟨w4, HW⟩ : ∃ x, Hid (x = wr.setCell ⟨b', o' + I, none⟩ (.int .i64 z)) := ⟨_, rfl⟩
      rw [← HW.out]
      have HQ1 : Hid (MidC w.heap.size w1.heap.size w4 (some ⟨b', o', none⟩) (sc14 Q by0 (I + 1)) c ∧ Below w.heap.size w w4 ∧ w1.heap.size ≤ w4.heap.size) := by
        show _ ∧ _
        rw [HW.out, ← HZ.out]
        exact ⟨HQ.out.1.put HIQ.out z, HQ.out.2.1.setCell (p := ⟨b', o' + I, none⟩) m1 _, by rw [World.size_setCell]; exact HQ.out.2.2⟩
      clear HW HQ m1 m2 m3 m4 HZ HIQ
      go_wp2_with fail
      exact ⟨⟨I + 1, by omega, by go_num, HQ1.out⟩, by simp [intOf]; omega⟩
    · obtain rfl : N = I := by omega
      go_wp2_with fail
      go_ret
      exact ⟨g, c, rfl, ⟨HQ.out.1.1.new HQ.out.2.2, HQ.out.1.2⟩, HQ.out.2.1⟩
end Go.Proofs.YtjaabemlpiafaaaDoor
