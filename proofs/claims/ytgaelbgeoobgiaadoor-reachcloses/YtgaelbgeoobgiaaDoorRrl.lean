/-
  The reference's classes.
-/
import Derived.BigQuiet
import Derived.Deep.DeepCutAuto
import Derived.Test.YtgaelbgeoobgiaaDoorRrc
import Derived.Test.YtgaelbgeoobgiaaDoorRgh
import Derived.Test.YtgaelbgeoobgiaaDoorApps
import Derived.Test.YtgaelbgeoobgiaaDoorBase
namespace Go.Proofs.YtgaelbgeoobgiaaDoor
open Go.RowKit
set_option linter.unusedVariables false

set_option maxRecDepth 100000 in
set_option maxHeartbeats 2000000 in
theorem classed_ref (n : Nat) (hn : n ≤ 24) (da : Option Addr) (dc : Nat) (dz : List Int) (m : Nat) (hm : dz.length = m) (hl : dz.length = n * n) (w : World) (hd : IsInts w.heap.size w da dz) :
    Calls Tryd.prog 9 #[.int .i64 (n : Nat), .slice da m dc] w fun e w' => ∃ xa xc, e = .returned (.slice xa n xc) ∧ NewC w.heap.size w' xa (csL n (rdR n dz)) xc ∧ Below w.heap.size w w' := by
  obtain ⟨N, hN⟩ : ∃ N, N = n * n := ⟨_, rfl⟩
  have h576 : N ≤ 576 := by have : n * n ≤ 24 * 24 := Nat.mul_le_mul hn hn; omega
  have hmul : (n : Int) * (n : Int) = (N : Int) := by rw [hN]; simp
  obtain rfl : m = N := by omega
  obtain ⟨R, hR⟩ : ∃ R, R = rdR n dz := ⟨_, rfl⟩
  have HR : Hid (R = rdR n dz) := hR
  have HN : Hid (dz.length = m ∧ m = n * n ∧ ∀ a, a < n → ∀ b, b < n → R a b = (nth dz (a * n + b) == 1)) := ⟨hm, hN, fun a ha b hb => by rw [hR]; exact rdR_at ha hb⟩
  have HI : Hid (IsInts w.heap.size w da dz) := hd
  clear hd hm hl hN hR
  have hC := closed_ref n hn da dc dz m HN.out.1 (by rw [HN.out.1, HN.out.2.1]) w HI.out
  obtain ⟨D, hD⟩ : ∃ D, D = csL n (rdR n dz) := ⟨_, rfl⟩
  rw [← HR.out] at hC hD
  have HD : Hid (D.length = n ∧ ∀ i, i < n → nth D i = ((cls R n i : Nat) : Int)) := ⟨by rw [hD, csL_len], fun i hi => by rw [hD, csL_nth hi]⟩
  have HDe : Hid (D = csL n R) := hD
  clear hD
  go_enter Tryd.func9, Tryd.ntmps9
  go_wp2_with fail
  refine hC.mono ?_
  rintro e v1 ⟨xa, rfl, hX, hB⟩
  obtain ⟨C, hCc⟩ : ∃ C, C = clL n (clB R n) := ⟨_, rfl⟩
  rw [← hCc] at hX
  have HC : Hid (C.length = m ∧ ∀ a, a < n → ∀ b, b < n → nth C (a * n + b) = bI (clB R n a b)) := ⟨by rw [hCc, clL_len, HN.out.2.1], fun a ha b hb => by rw [hCc, clL_at _ ha hb]⟩
  have HX : Hid (IsInts v1.heap.size v1 xa C) := hX.ints.1
  have HB1 : Hid (Below w.heap.size w v1) := hB
  have zv : w.heap.size ≤ v1.heap.size := hB.size
  clear hX hB hCc hC
  go_wp2_with fail
  go_loopw [6, 7] (fun v q wr => ∃ i : Nat, i ≤ n ∧ q = .int .i64 (i : Nat) ∧ wr.ownsRow v1.heap.size 3 1 v (D.take i).length ((D.take i).map (Value.int .i64)) ∧ Below v1.heap.size v1 wr) (fun _ q _ => n - (intOf q).toNat)
  case atStart => exact ⟨0, Nat.zero_le _, rfl, World.ownsRow_nil _ _ _ _, Below.refl _ v1⟩
  case round =>
    obtain ⟨i, hi, rfl, hown, hB⟩ := hrel
    obtain ⟨g, gc, rfl, hN⟩ := own_cap hown
    have HQ : Hid (wr.ownsRow v1.heap.size 3 1 (.slice g (D.take i).length gc) (D.take i).length ((D.take i).map (Value.int .i64)) ∧ Below v1.heap.size v1 wr) := ⟨hown, hB⟩
    have HNn : Hid (NewC v1.heap.size wr g (D.take i) gc) := hN
    clear hown hB hN
    by_cases hlt : i < n
    · obtain ⟨P, hP⟩ : ∃ P, P = i * n := ⟨_, rfl⟩
      have hPi : (i : Int) * (n : Int) = (P : Int) := by rw [hP]; simp
      have HP : Hid (P = i * n ∧ P + n ≤ m ∧ i < n) := ⟨hP, by rw [hP, HN.out.2.1, ← Nat.succ_mul]; exact Nat.mul_le_mul_right n hlt, hlt⟩
      have hPm : P + n ≤ m := HP.out.2.1
      clear hP
      obtain ⟨bx, ox, rfl, _, hcx⟩ := (HX.out.below HQ.out.2).at (q := P) (by rw [HC.out.1]; omega)
      have HCC : Hid (∀ q, q < m → wr.cell? ⟨bx, ox + q, none⟩ = some (.int .i64 (nth C q))) := fun q hq => hcx q (by rw [HC.out.1]; exact hq)
      clear hcx
      obtain ⟨wi, hwi⟩ : ∃ x, x = wr := ⟨_, rfl⟩
      subst hwi
      obtain ⟨L, hL⟩ : ∃ L, L = (D.take i).length := ⟨_, rfl⟩
      have HL : Hid (L = (D.take i).length ∧ L ≤ 24) := ⟨hL, by rw [hL, List.length_take]; omega⟩
      rw [← hL]
      clear hL
      go_wp2_with fail
      go_loopw [8] (fun q wr => wr = wi ∧ ∃ t : Nat, t ≤ i ∧ q = .int .i64 (t : Nat) ∧ Hid (∀ q, q < t → ¬ bwd R n i q = true)) (fun q _ => i - (intOf q).toNat)
      case atStart => exact ⟨by first | trivial | rfl, 0, Nat.zero_le _, rfl, fun q h => absurd h (Nat.not_lt_zero _)⟩
      case round =>
        obtain ⟨hwr, t, ht, rfl, HT⟩ := hrel
        obtain rfl := hwr.symm
        have HE : Hid (∀ c : Nat, cls R n i = c → ((wi.alloc (.cells #[.int .i64 (c : Int)] 3)).heap[wi.heap.size]? = some (.cells #[.int .i64 (c : Int)] 3 (0, 0)) ∧ D.take (i + 1) = D.take i ++ [((c : Nat) : Int)])) := fun c hc => ⟨heap_alloc_new wi _, by rw [take_snoc D i (by rw [HD.out.1]; exact hlt), HD.out.2 i hlt, hc]⟩
        by_cases hti : t = i
        · have t0 : ((t : Int) != (i : Int)) = false := by simp; omega
          have HTc : Hid (cls R n i = t) := by show _ = _; unfold cls; rw [hti]; exact lea_no fun j hj => HT.out j (by omega)
          clear hti HT
          have HF := HE.out t HTc.out
          have HNW : Hid (_) := HF.1
          have HTK : Hid (D.take (i + 1) = D.take i ++ [((t : Nat) : Int)]) := HF.2
          clear HF HE
          go_upto_region 9 with fail
          rw [HL.out.1]
          obtain ⟨Q, hQ2⟩ : ∃ Q, Q = D.take i := ⟨_, rfl⟩
          have HQ4 : Hid (wi.ownsRow v1.heap.size 3 1 (.slice g Q.length gc) Q.length (Q.map (Value.int .i64))) := by rw [hQ2]; exact HQ.out.1
          have HLN : Hid (Q.length ≤ 24) := by show _ ≤ _; rw [hQ2, ← HL.out.1]; exact HL.out.2
          have HQe : Hid (Q = D.take i) := hQ2
          rw [← hQ2]
          clear hQ2
          have hzi : v1.heap.size ≤ wi.heap.size := HQ.out.2.size
          go_wp2_with (at_builtin; refine app_list rfl _ _ rfl _ v1.heap.size wi.heap.size (.slice g Q.length gc) Q (t : Int) rfl rfl (HQ4.out.alloc _) HNW.out (by have := HLN.out; omega) (by simp; omega) ?_; intro g1 gc1 w4 hown1 hB3)
          have hall : Below v1.heap.size wi w4 := ((Below.refl _ _).alloc (by omega) _).trans hB3
          go_roundw
          case rel => exact ⟨i + 1, by omega, by go_num, by rw [HTK.out, List.length_append, ← HQe.out]; exact hown1, HQ.out.2.trans hall⟩
          case measure => simp [intOf]; omega
        · have t0 : ((t : Int) != (i : Int)) = true := by simp; omega
          have hti2 : t < i := by omega
          have htn : t < n := by omega
          obtain ⟨K, hK⟩ : ∃ K, K = t * n := ⟨_, rfl⟩
          have hKi : (t : Int) * (n : Int) = (K : Int) := by rw [hK]; simp
          have hKj : K + i < m := by rw [hK, HN.out.2.1]; exact row_lt htn hlt
          have hPt : P + t < m := by omega
          have c1 := HCC.out _ hPt
          have c2 := HCC.out _ hKj
          obtain ⟨x, hx⟩ : ∃ x, x = nth C (P + t) := ⟨_, rfl⟩
          obtain ⟨y, hy⟩ : ∃ y, y = nth C (K + i) := ⟨_, rfl⟩
          rw [← hx] at c1
          rw [← hy] at c2
          have hX1 : (x == 0) = !clB R n i t := by rw [hx, HP.out.1, HC.out.2 i hlt t htn]; cases clB R n i t <;> rfl
          have hY1 : (y == 0) = !clB R n t i := by rw [hy, hK, HC.out.2 t htn i hlt]; cases clB R n t i <;> rfl
          have hX2 : ¬ x = 0 → clB R n i t = true := fun e => by
            have h0 : (x == 0) = false := by simpa using e
            rw [hX1] at h0
            simpa using h0
          have hY2 : ¬ y = 0 → clB R n t i = true := fun e => by
            have h0 : (y == 0) = false := by simpa using e
            rw [hY1] at h0
            simpa using h0
          have HNx : ¬ (x = 0) → ¬ (y = 0) → Hid (cls R n i = t) := fun e1 e2 => lea_at (by omega) (bwd_iff.2 ⟨hX2 e1, hY2 e2⟩) HT.out
          have HSk : (x = 0 ∨ y = 0) → Hid (∀ q, q < t + 1 → ¬ bwd R n i q = true) := fun e q hq => by
            by_cases e2 : q = t
            · subst e2
              intro h
              have h := bwd_iff.1 h
              rw [h.1] at hX1
              rw [h.2] at hY1
              rcases e with e | e
              · rw [e] at hX1; exact absurd hX1 (by decide)
              · rw [e] at hY1; exact absurd hY1 (by decide)
            · exact HT.out q (by omega)
          clear hx hy hK hX1 hY1 hX2 hY2 hti HT
          by_cases hx0 : x = 0
          · have t1 : (x == 0) = true := by simpa using hx0
            have HTs := HSk (.inl hx0)
            clear hx0 HSk HNx HE
            go_wp2_with fail
            exact ⟨⟨by first | trivial | rfl, t + 1, by omega, by go_num, HTs⟩, by simp [intOf]; omega⟩
          · have t1 : (x == 0) = false := by simpa using hx0
            by_cases hy0 : y = 0
            · have t2 : (y == 0) = true := by simpa using hy0
              have HTs := HSk (.inr hy0)
              clear hx0 hy0 HSk HNx HE
              go_wp2_with fail
              exact ⟨⟨by first | trivial | rfl, t + 1, by omega, by go_num, HTs⟩, by simp [intOf]; omega⟩
            · have t2 : (y == 0) = false := by simpa using hy0
              have HTc := HNx hx0 hy0
              clear hx0 hy0 HSk HNx
              have HF := HE.out t HTc.out
              have HNW : Hid (_) := HF.1
              have HTK : Hid (D.take (i + 1) = D.take i ++ [((t : Nat) : Int)]) := HF.2
              clear HF HE
              go_upto_region 9 with fail
              rw [HL.out.1]
              obtain ⟨Q, hQ2⟩ : ∃ Q, Q = D.take i := ⟨_, rfl⟩
              have HQ4 : Hid (wi.ownsRow v1.heap.size 3 1 (.slice g Q.length gc) Q.length (Q.map (Value.int .i64))) := by rw [hQ2]; exact HQ.out.1
              have HLN : Hid (Q.length ≤ 24) := by show _ ≤ _; rw [hQ2, ← HL.out.1]; exact HL.out.2
              have HQe : Hid (Q = D.take i) := hQ2
              rw [← hQ2]
              clear hQ2
              have hzi : v1.heap.size ≤ wi.heap.size := HQ.out.2.size
              go_wp2_with (at_builtin; refine app_list rfl _ _ rfl _ v1.heap.size wi.heap.size (.slice g Q.length gc) Q (t : Int) rfl rfl (HQ4.out.alloc _) HNW.out (by have := HLN.out; omega) (by simp; omega) ?_; intro g1 gc1 w4 hown1 hB3)
              have hall : Below v1.heap.size wi w4 := ((Below.refl _ _).alloc (by omega) _).trans hB3
              go_roundw
              case rel => exact ⟨i + 1, by omega, by go_num, by rw [HTK.out, List.length_append, ← HQe.out]; exact hown1, HQ.out.2.trans hall⟩
              case measure => simp [intOf]; omega
    · obtain rfl : i = n := by omega
      have hti : D.take i = D := List.take_of_length_le (by rw [HD.out.1]; exact Nat.le_refl _)
      have HNe : Hid (NewC v1.heap.size wr g D gc) := by have := HNn.out; rwa [hti] at this
      rw [hti, HD.out.1]
      clear hti
      go_wp2_with fail
      go_ret
      exact ⟨g, gc, rfl, by rw [← HR.out, ← HDe.out]; exact HNe.out.lowc zv, HB1.out.trans (HQ.out.2.mono zv)⟩
end Go.Proofs.YtgaelbgeoobgiaaDoor
