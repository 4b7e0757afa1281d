/-
  The least numbers of steps: things met one after the other.
-/
import Derived.BigQuiet
import Derived.Deep.DeepCutAuto
import Derived.Test.YtgaelbgeoobgiabRgh
import Derived.Test.YtgaelbgeoobgiabRcf
import Derived.Test.YtgaelbgeoobgiabInl
import Derived.Test.YtgaelbgeoobgiabApps
import Derived.Test.YtgaelbgeoobgiabBase
namespace Go.Proofs.Ytgaelbgeoobgiab
open Go.RowKit
set_option linter.unusedVariables false

theorem own_s15 {w : World} {base : Nat} {e : TypeId} {size : Nat} {v : Value} {n : Nat} {xs : List Value} (h : w.ownsRow base e size v n xs) {a : Addr} (ha : a.block < base) (u : Value) : (w.setCell a u).ownsRow base e size v n xs := by
  obtain ⟨hl, hc⟩ := h
  refine ⟨hl, ?_⟩
  rcases hc with hc | ⟨g, cap, cur, h1, h2, hg, hr⟩
  · exact .inl hc
  · exact .inr ⟨g, cap, cur, h1, h2, (Below.heap_setCell w a u g (by omega)).trans hg, hr⟩
theorem Bf.congr {R : Rl} {n i : Nat} {met : List Nat} {t t' : Nat → Int} {k c : Nat} (h : Bf R n i met t k c) (hi : i < n) (e : ∀ j, j < n → t' j = t j) : Bf R n i met t' k c := by
  have em : ∀ b, b < met.length → t' (met.getD b 0) = t (met.getD b 0) := fun b hb => e _ (h.low _ (getD_mem hb))
  refine ⟨h.once, h.low, by rw [e i hi]; exact h.frs, h.has, fun j hj => by rw [e j hj]; exact h.tel j hj, fun b hb => by rw [em b hb]; exact h.bnd b hb, fun a b hab hb => by rw [em a (by omega), em b hb]; exact h.ris a b hab hb, fun b hb hk => by rw [em b hb, em k hk]; exact h.top b hb hk, fun a ha hal j hj hr => by rw [em a hal, e j hj]; exact h.don a ha hal j hj hr, fun hk j hj hn hr => by rw [em k hk, e j hn]; exact h.cur hk j hj hn hr⟩
theorem Bl.congr {R : Rl} {n i : Nat} {t t' : Nat → Int} {r a b q : Nat} (h : Bl R n i t r a b q) (hi : i < n) (e : ∀ j, j < n → t' j = t j) : Bl R n i t' r a b q :=
  ⟨by rw [e i hi]; exact h.frs, fun j hj => by rw [e j hj]; exact h.tel j hj, fun j hj => by rw [e j hj]; exact h.bnd j hj, fun k hk j hj hw => by rw [e j hj]; exact h.rnd k hk j hj hw, fun x hx y hy hp hr k hk hw => by rw [e y hy]; exact h.cur x hx y hy hp hr k hk hw⟩
/-- The least numbers of steps, as they lie. -/
def frL (n : Nat) (R : Rl) (i : Nat) : List Int := (List.range n).map fun j => far R n i j
theorem frL_len (n : Nat) (R : Rl) (i : Nat) : (frL n R i).length = n := by simp [frL]
theorem frL_nth {n j : Nat} (R : Rl) (i : Nat) (h : j < n) : nth (frL n R i) j = far R n i j := by
  rw [nth_get _ _ (by rw [frL_len]; exact h)]
  simp [frL]
theorem frL_is {n i : Nat} {R : Rl} {T : List Int} (hl : T.length = n) (h : ∀ j, j < n → nth T j = far R n i j) : T = frL n R i := by
  refine List.ext_getElem (by rw [frL_len, hl]) fun j h1 h2 => ?_
  rw [← nth_get _ _ h1, ← nth_get _ _ h2, frL_nth R i (by omega), h j (by omega)]
/-- So many are -1. -/
def mnL (n t : Nat) : List Int := List.replicate t (-1) ++ List.replicate (n - t) 0
theorem mnL_zero (n : Nat) : mnL n 0 = List.replicate n 0 := by simp [mnL]
theorem mnL_all (n : Nat) : mnL n n = List.replicate n (-1) := by simp [mnL]
theorem mnL_len {n t : Nat} (h : t ≤ n) : (mnL n t).length = n := by simp [mnL]; omega
theorem mnL_next {n t : Nat} (h : t < n) : (mnL n t).set t (-1) = mnL n (t + 1) := by
  unfold mnL
  rw [List.set_append_right _ _ (by simp), List.replicate_succ', List.append_assoc]
  congr 1
  rw [List.length_replicate, Nat.sub_self, show n - t = (n - (t + 1)) + 1 by omega, List.replicate_succ]
  rfl
theorem mnL_first {R : Rl} {n i : Nat} (hi : i < n) : ((mnL n n).set i 0).length = n ∧ Bf R n i [i] (nth ((mnL n n).set i 0)) 0 0 ∧ Bl R n i (nth ((mnL n n).set i 0)) 0 0 0 0 := by
  have h1 : i < (mnL n n).length := by rw [mnL_len (Nat.le_refl _)]; exact hi
  have h2 : ∀ j, j < n → nth ((mnL n n).set i 0) j = pti (fun _ => -1) i 0 j := fun j hj => by
    rw [pti_nth h1]
    unfold pti
    by_cases e : j = i
    · rw [if_pos e, if_pos e]
    · rw [if_neg e, if_neg e, mnL_all, nth_get _ _ (by simpa using hj)]
      simp
  exact ⟨by rw [List.length_set, mnL_len (Nat.le_refl _)], (Bf.start hi).congr hi h2, (Bl.start hi).congr hi h2⟩
set_option maxRecDepth 100000 in
set_option maxHeartbeats 2000000 in
theorem far_any (A : Rl) (n i : Nat) (hn : n ≤ 24) (hi : i < n) (w : World) :
    Calls Try.prog 10 #[.agg (ofr A), .int .i64 (n : Nat), .int .i64 (i : Nat)] w fun e w' => ∃ xa, e = .returned (.slice xa n n) ∧ NewC w.heap.size w' xa (frL n A i) n ∧ Below w.heap.size w w' := by
  have hmk := run_make_row' (P := Try.prog) 22 3 (.int .i64 0) 8 Try.underlying22 Try.infoInt rfl .i64 .i64 n (by omega) (by omega)
  obtain ⟨w1, HW1⟩ : ∃ x, Hid (x = (w.alloc (.cells (ofr A) 38)).alloc (.cells (madeCells #[.int .i64 0] n) 3)) := ⟨_, rfl⟩
  have HQ0 : Hid (Rb w1 w.heap.size A ∧ MidC (w.heap.size + 1) (w.heap.size + 1 + 1) w1 (some ⟨w.heap.size + 1, 0, none⟩) (mnL n 0) n ∧ Below w.heap.size w w1 ∧ w.heap.size + 1 + 1 ≤ w1.heap.size) := by
    show _ ∧ _
    have h3 := zer_mid (w.alloc (.cells (ofr A) 38)) 3 n
    simp only [World.size_alloc] at h3
    rw [HW1.out, mnL_zero]
    exact ⟨(Rb.new w A).al _, h3, ((Below.refl _ w).alloc (Nat.le_refl _) _).alloc (by simp) _, by simp⟩
  have iI : (i : Int) < (n : Int) := by omega
  have HI : Hid (i < n) := hi
  go_enter Try.func10, Try.ntmps10
  go_wp2_with fail
  rw [← HW1.out]
  clear HW1 hmk
  go_loopw [17] (fun j wr => ∃ t : Nat, t ≤ n ∧ j = .int .i64 t ∧ Rb wr w.heap.size A ∧ MidC (w.heap.size + 1) (w.heap.size + 1 + 1) wr (some ⟨w.heap.size + 1, 0, none⟩) (mnL n t) n ∧ Below w.heap.size w wr ∧ w.heap.size + 1 + 1 ≤ wr.heap.size) (fun j _ => n - (intOf j).toNat)
  case atStart => exact ⟨0, Nat.zero_le _, rfl, HQ0.out⟩
  case round =>
    clear HQ0
    obtain ⟨t, ht, rfl, hQ⟩ := hrel
    have HQ : Hid (Rb wr w.heap.size A ∧ MidC (w.heap.size + 1) (w.heap.size + 1 + 1) wr (some ⟨w.heap.size + 1, 0, none⟩) (mnL n t) n ∧ Below w.heap.size w wr ∧ w.heap.size + 1 + 1 ≤ wr.heap.size) := hQ
    clear hQ
    by_cases hlt : t < n
    · obtain ⟨b', o', hbo, _, _, c3, f3⟩ := HQ.out.2.1.at (i := t) (by rw [mnL_len ht]; exact hlt)
      cases hbo
      rw [Nat.zero_add] at c3 f3
      have HQ6 : Hid (Rb (wr.setCell ⟨w.heap.size + 1, t, none⟩ (.int .i64 (-1))) w.heap.size A ∧ MidC (w.heap.size + 1) (w.heap.size + 1 + 1) (wr.setCell ⟨w.heap.size + 1, t, none⟩ (.int .i64 (-1))) (some ⟨w.heap.size + 1, 0, none⟩) (mnL n (t + 1)) n ∧ Below w.heap.size w (wr.setCell ⟨w.heap.size + 1, t, none⟩ (.int .i64 (-1))) ∧ w.heap.size + 1 + 1 ≤ (wr.setCell ⟨w.heap.size + 1, t, none⟩ (.int .i64 (-1))).heap.size) := by
        show _ ∧ _
        rw [← mnL_next hlt]
        exact ⟨HQ.out.1.ot (by show w.heap.size ≠ w.heap.size + 1; omega) _, put0 HQ.out.2.1 (by rw [mnL_len ht]; exact hlt) _, HQ.out.2.2.1.setCell (p := ⟨w.heap.size + 1, t, none⟩) (by show w.heap.size ≤ w.heap.size + 1; omega) _, by have := HQ.out.2.2.2; simp [World.setCell]; omega⟩
      clear HQ
      go_wp2_with fail
      exact ⟨⟨t + 1, by omega, by go_num, HQ6.out⟩, by simp [intOf]; omega⟩
    · obtain rfl : t = n := by omega
      obtain ⟨b', o', hbo, _, _, c3, f3⟩ := HQ.out.2.1.at (i := i) (by rw [mnL_len (Nat.le_refl _)]; exact hi)
      cases hbo
      rw [Nat.zero_add] at c3 f3
      obtain ⟨w2, HW2⟩ : ∃ x, Hid (x = (wr.setCell ⟨w.heap.size + 1, i, none⟩ (.int .i64 0))) := ⟨_, rfl⟩
      obtain ⟨T0, hT0⟩ : ∃ T, T = (mnL t t).set i 0 := ⟨_, rfl⟩
      have HT0 : Hid (T0.length = t ∧ Bf A t i [i] (nth T0) 0 0) := by
        have h := mnL_first (R := A) HI.out
        rw [← hT0] at h
        exact ⟨h.1, h.2.1⟩
      have hz2 : w2.heap.size = wr.heap.size := by rw [HW2.out]; simp [World.setCell]
      have hl0 := World.ownsRow_lit (size := 1) (e := 3) (base := w.heap.size + 1 + 1) w2 #[.int .i64 (i : Nat)] 1 (by have := HQ.out.2.2.2; omega) (by unfold maxLen; omega) rfl
      rw [hz2] at hl0
      have HQ3 : Hid ((w2.alloc (.cells #[.int .i64 (i : Nat)] 3)).ownsRow (w.heap.size + 1 + 1) 3 1 (.slice (some ⟨wr.heap.size, 0, none⟩) 1 1) (inL [i]).length ((inL [i]).map (Value.int .i64)) ∧ MidC (w.heap.size + 1) (w.heap.size + 1 + 1) (w2.alloc (.cells #[.int .i64 (i : Nat)] 3)) (some ⟨w.heap.size + 1, 0, none⟩) T0 t ∧ Rb (w2.alloc (.cells #[.int .i64 (i : Nat)] 3)) w.heap.size A ∧ Below w.heap.size w (w2.alloc (.cells #[.int .i64 (i : Nat)] 3)) ∧ w.heap.size + 1 + 1 ≤ (w2.alloc (.cells #[.int .i64 (i : Nat)] 3)).heap.size) := by
        refine ⟨hl0, ?_⟩
        have h2 := HQ.out.2.2.2
        have hm := put0 HQ.out.2.1 (by rw [mnL_len (Nat.le_refl _)]; exact HI.out) 0
        rw [← hT0] at hm
        rw [HW2.out]
        exact ⟨hm.al (by simp [World.setCell]; omega) _, (HQ.out.1.ot (a := ⟨w.heap.size + 1, i, none⟩) (by show w.heap.size ≠ w.heap.size + 1; omega) _).al _, (HQ.out.2.2.1.setCell (p := ⟨w.heap.size + 1, i, none⟩) (by show w.heap.size ≤ w.heap.size + 1; omega) _).alloc (by simp [World.setCell]; omega) _, by simp [World.setCell]; omega⟩
      clear HQ hl0 hT0
      go_wp2_with fail
      rw [← HW2.out]
      try rw [hz2]
      clear HW2 hz2 c3 f3
      go_loopw [9, 10] (fun v q wr => ∃ (met : List Nat) (T : List Int) (k : Nat), q = .int .i64 (k : Nat) ∧ wr.ownsRow (w.heap.size + 1 + 1) 3 1 v (inL met).length ((inL met).map (Value.int .i64)) ∧ MidC (w.heap.size + 1) (w.heap.size + 1 + 1) wr (some ⟨w.heap.size + 1, 0, none⟩) T t ∧ Rb wr w.heap.size A ∧ Below w.heap.size w wr ∧ w.heap.size + 1 + 1 ≤ wr.heap.size ∧ Hid (k ≤ met.length ∧ T.length = t ∧ Bf A t i met (nth T) k 0)) (fun _ q _ => t - (intOf q).toNat)
      case atStart => exact ⟨[i], T0, 0, rfl, HQ3.out.1, HQ3.out.2.1, HQ3.out.2.2.1, HQ3.out.2.2.2.1, HQ3.out.2.2.2.2, Nat.zero_le _, HT0.out⟩
      case round =>
        clear HQ3 HT0
        obtain ⟨met, T, k, rfl, hown, hmid, hrb, hbel, hbase, HF⟩ := hrel
        obtain ⟨g, gc, rfl, hN⟩ := own_cap hown
        have HQ : Hid (wr.ownsRow (w.heap.size + 1 + 1) 3 1 (.slice g (inL met).length gc) (inL met).length ((inL met).map (Value.int .i64)) ∧ MidC (w.heap.size + 1) (w.heap.size + 1 + 1) wr (some ⟨w.heap.size + 1, 0, none⟩) T t ∧ Rb wr w.heap.size A ∧ Below w.heap.size w wr ∧ w.heap.size + 1 + 1 ≤ wr.heap.size) := ⟨hown, hmid, hrb, hbel, hbase⟩
        have HN : Hid (NewC (w.heap.size + 1 + 1) wr g (inL met) gc) := hN
        clear hown hmid hrb hbel hbase hN
        obtain ⟨L, hL⟩ : ∃ L, L = (inL met).length := ⟨_, rfl⟩
        have HLL : Hid (L = (inL met).length) := hL
        have HL : Hid (L = met.length) := by show _ = _; rw [hL, inL_len]
        have hL2 : L ≤ t := by rw [hL, inL_len]; exact HF.out.2.2.len
        by_cases hk : k < met.length
        · have hkL : k < L := by rw [hL, inL_len]; exact hk
          have ikL : (k : Int) < (L : Int) := by omega
          obtain ⟨m, hm⟩ : ∃ m, m = met.getD k 0 := ⟨_, rfl⟩
          have HM : Hid (m = met.getD k 0 ∧ k < met.length ∧ k ≤ 24 ∧ m < t) := ⟨hm, hk, by omega, by rw [hm]; exact (HF.out.2.2.pos hk).1⟩
          obtain ⟨bM, oM, rfl, _, hcM⟩ := HN.out.ints.1.at (q := k) (by rw [← hL]; exact hkL)
          have cM := hcM k (by rw [← hL]; exact hkL)
          rw [inL_nth hk, ← hm] at cM
          rw [← hL]
          clear hcM hm hk hL
          go_wp2_with fail
          clear cM
          go_loopw [9, 40] (fun v q wr2 => ∃ (met2 : List Nat) (T2 : List Int) (c : Nat), c ≤ t ∧ q = .int .i64 (c : Nat) ∧ wr2.ownsRow (w.heap.size + 1 + 1) 3 1 v (inL met2).length ((inL met2).map (Value.int .i64)) ∧ MidC (w.heap.size + 1) (w.heap.size + 1 + 1) wr2 (some ⟨w.heap.size + 1, 0, none⟩) T2 t ∧ Rb wr2 w.heap.size A ∧ Below w.heap.size w wr2 ∧ w.heap.size + 1 + 1 ≤ wr2.heap.size ∧ Hid (k < met2.length ∧ met2.getD k 0 = m ∧ T2.length = t ∧ Bf A t i met2 (nth T2) k c)) (fun _ q _ => t - (intOf q).toNat)
          case atStart => exact ⟨met, T, 0, Nat.zero_le _, rfl, by rw [HLL.out]; exact HQ.out.1, HQ.out.2.1, HQ.out.2.2.1, HQ.out.2.2.2.1, HQ.out.2.2.2.2, HM.out.2.1, HM.out.1.symm, HF.out.2⟩
          case round =>
            clear HQ HN HF HL HLL hL2 hkL ikL
            obtain ⟨met2, T2, c, hc, rfl, hown, hmid, hrb, hbel, hbase, HF⟩ := hrel
            obtain ⟨g2, gc2, rfl, hN⟩ := own_cap hown
            have HQ : Hid (wr.ownsRow (w.heap.size + 1 + 1) 3 1 (.slice g2 (inL met2).length gc2) (inL met2).length ((inL met2).map (Value.int .i64)) ∧ MidC (w.heap.size + 1) (w.heap.size + 1 + 1) wr (some ⟨w.heap.size + 1, 0, none⟩) T2 t ∧ Rb wr w.heap.size A ∧ Below w.heap.size w wr ∧ w.heap.size + 1 + 1 ≤ wr.heap.size) := ⟨hown, hmid, hrb, hbel, hbase⟩
            clear hown hmid hrb hbel hbase hN
            by_cases hlt : c < t
            · have ic : (c : Int) < (t : Int) := by omega
              have ic24 : (c : Int) < 24 := by omega
              have im : (m : Int) < (t : Int) := by have := HM.out.2.2.2; omega
              have im24 : (m : Int) < 24 := by omega
              have m24 : m < 24 := by omega
              have c24 : c < 24 := by omega
              have c1 := HQ.out.2.2.1.cell m24 c24
              obtain ⟨x, hx⟩ : ∃ x, A m c = x := ⟨_, rfl⟩
              rw [hx] at c1
              obtain ⟨_, _, he1, _, _, d1, f1⟩ := HQ.out.2.1.at (i := c) (by rw [HF.out.2.2.1]; exact hlt)
              cases he1
              obtain ⟨_, _, he2, _, _, d2, _⟩ := HQ.out.2.1.at (i := m) (by rw [HF.out.2.2.1]; omega)
              cases he2
              rw [Nat.zero_add] at d1 f1 d2
              obtain ⟨tc, htc⟩ : ∃ z, z = nth T2 c := ⟨_, rfl⟩
              obtain ⟨tm, htm⟩ : ∃ z, z = nth T2 m := ⟨_, rfl⟩
              rw [← htc] at d1
              rw [← htm] at d2
              have HX : Hid (A m c = x ∧ tc = nth T2 c ∧ tm = nth T2 m) := ⟨hx, htc, htm⟩
              clear hx htc htm
              have HSk : ¬ (x = true ∧ tc < 0) → Hid (Bf A t i met2 (nth T2) k (c + 1)) := fun e => HF.out.2.2.2.skip (by rw [HF.out.2.1, HX.out.1, ← HX.out.2.1]; exact e)
              cases x
              · have HT := HSk (by simp)
                clear HSk
                go_wp2_with fail
                exact ⟨⟨met2, T2, c + 1, by omega, by go_num, HQ.out.1, HQ.out.2.1, HQ.out.2.2.1, HQ.out.2.2.2.1, HQ.out.2.2.2.2, HF.out.1, HF.out.2.1, HF.out.2.2.1, HT.out⟩, by simp [intOf]; omega⟩
              · by_cases hneg : tc < 0
                · have hp := HF.out.2.2.2.pos HF.out.1
                  have hb := HF.out.2.2.2.bnd k HF.out.1
                  rw [HF.out.2.1, ← HX.out.2.2] at hp hb
                  have hw : IntKind.i64.wrap (tm + 1) = tm + 1 := by rw [IntWalk.i64_left]; exact w_small (by omega) (by have := HM.out.2.2.1; omega)
                  have HT : Hid (Bf A t i (met2 ++ [c]) (nth (T2.set c (tm + 1))) k (c + 1)) := by
                    show Bf _ _ _ _ _ _ _
                    have h := HF.out.2.2.2.add HF.out.1 hlt (by rw [HF.out.2.1]; exact HX.out.1) (by rw [← HX.out.2.1]; exact hneg)
                    rw [pti_nth (by rw [HF.out.2.2.1]; exact hlt), HX.out.2.2]
                    rwa [HF.out.2.1] at h
                  have hq5 := HQ.out.2.2.2.2
                  obtain ⟨w3, HW3⟩ : ∃ x, Hid (x = (wr.setCell ⟨w.heap.size + 1, c, none⟩ (.int .i64 (tm + 1)))) := ⟨_, rfl⟩
                  have hz3 : w3.heap.size = wr.heap.size := by rw [HW3.out]; simp [World.setCell]
                  have HQ4 : Hid (w3.ownsRow (w.heap.size + 1 + 1) 3 1 (.slice g2 (inL met2).length gc2) (inL met2).length ((inL met2).map (Value.int .i64)) ∧ MidC (w.heap.size + 1) (w.heap.size + 1 + 1) w3 (some ⟨w.heap.size + 1, 0, none⟩) (T2.set c (tm + 1)) t ∧ Rb w3 w.heap.size A ∧ Below w.heap.size w w3 ∧ w.heap.size + 1 + 1 ≤ w3.heap.size) := by
                    rw [HW3.out]
                    exact ⟨own_s15 HQ.out.1 (a := ⟨w.heap.size + 1, c, none⟩) (by show w.heap.size + 1 < w.heap.size + 1 + 1; omega) _, put0 HQ.out.2.1 (by rw [HF.out.2.2.1]; exact hlt) _, HQ.out.2.2.1.ot (a := ⟨w.heap.size + 1, c, none⟩) (by show w.heap.size ≠ w.heap.size + 1; omega) _, HQ.out.2.2.2.1.setCell (p := ⟨w.heap.size + 1, c, none⟩) (by show w.heap.size ≤ w.heap.size + 1; omega) _, by simp [World.setCell]; omega⟩
                  have HNW : Hid ((w3.alloc (.cells #[.int .i64 (c : Int)] 3)).heap[wr.heap.size]? = some (.cells #[.int .i64 (c : Int)] 3 (0, 0))) := by have := heap_alloc_new w3 (.cells #[.int .i64 (c : Int)] 3); rwa [hz3] at this
                  have HLN : Hid ((inL met2).length ≤ 24) := by show _ ≤ _; rw [inL_len]; have := HF.out.2.2.2.len; omega
                  clear HSk hp hb HQ
                  generalize hQ2 : inL met2 = Q at *
                  go_upto_region 18 with fail
                  rw [← HW3.out]
                  go_wp2_with (at_builtin; refine app_list rfl _ _ rfl _ (w.heap.size + 1 + 1) wr.heap.size (.slice g2 Q.length gc2) Q (c : Int) rfl rfl (HQ4.out.1.alloc _) HNW.out (by have := HLN.out; omega) (by simp; omega) ?_; intro g1 gc1 w4 hown1 hB3)
                  have hall : Below (w.heap.size + 1 + 1) w3 w4 := ((Below.refl _ _).alloc (by omega) _).trans hB3
                  go_roundw
                  case rel =>
                    refine ⟨met2 ++ [c], T2.set c (tm + 1), c + 1, by omega, by go_num, ?_, ?_, ?_, ?_, ?_, ?_, ?_, ?_, HT.out⟩
                    · rw [inL_app, hQ2, List.length_append]; exact hown1
                    · exact ⟨HQ4.out.2.1.1.bel hall, HQ4.out.2.1.2⟩
                    · exact HQ4.out.2.2.1.bel hall (by omega)
                    · exact HQ4.out.2.2.2.1.trans (hall.mono (by omega))
                    · have := hall.size; omega
                    · rw [List.length_append]; have := HF.out.1; omega
                    · rw [getD_app HF.out.1]; exact HF.out.2.1
                    · rw [List.length_set]; exact HF.out.2.2.1
                  case measure => simp [intOf]; omega
                · have HT := HSk (fun e => hneg e.2)
                  clear HSk
                  go_wp2_with fail
                  exact ⟨⟨met2, T2, c + 1, by omega, by go_num, HQ.out.1, HQ.out.2.1, HQ.out.2.2.1, HQ.out.2.2.2.1, HQ.out.2.2.2.2, HF.out.1, HF.out.2.1, HF.out.2.2.1, HT.out⟩, by simp [intOf]; omega⟩
            · obtain rfl : t = c := by omega
              have hk1 := HF.out.2.2.2.len
              have hk2 := HF.out.1
              go_wp2_with fail
              exact ⟨⟨met2, T2, k + 1, by go_num, HQ.out.1, HQ.out.2.1, HQ.out.2.2.1, HQ.out.2.2.2.1, HQ.out.2.2.2.2, by have := HF.out.1; omega, HF.out.2.2.1, HF.out.2.2.2.next HF.out.1⟩, by simp [intOf]; have := HF.out.1; omega⟩
        · have hkL : ¬ (k : Int) < (L : Int) := by rw [HL.out]; omega
          have HT : Hid (T = frL t A i) := frL_is HF.out.2.1 fun j hj => HF.out.2.2.done HI.out (by omega) hj
          rw [← hL]
          clear hk hL
          go_wp2_with fail
          go_ret
          exact ⟨(some ⟨w.heap.size + 1, 0, none⟩), rfl, by rw [← HT.out]; exact HQ.out.2.1.newc HQ.out.2.2.2.2 (by omega), HQ.out.2.2.2.1⟩
end Go.Proofs.Ytgaelbgeoobgiab
