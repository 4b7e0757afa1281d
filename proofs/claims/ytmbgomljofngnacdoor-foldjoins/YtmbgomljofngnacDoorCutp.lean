/-
  What the program asks of two arrays that are to be joined.
-/
import Derived.Test.YtmbgomljofngnacDoorCuts
import Derived.Test.YtmbgomljofngnacDoorBase
namespace Go.Proofs.YtmbgomljofngnacDoor
open Go.RowKit
set_option linter.unusedVariables false

/-- What is wrong with two arrays on an axis, ahead of all that is reckoned. -/
def jnP (x : Int) (c : Bool) (s dz : List Int) (c' : Bool) (s' dz' : List Int) : Int :=
  if flawE c s dz ≠ 0 then flawE c s dz else if flawE c' s' dz' ≠ 0 then flawE c' s' dz' else if s.length ≠ s'.length then 3 else if x < 0 ∨ (s.length : Int) ≤ x then 5 else if othB x.toNat s s' = false then 4 else if c ≠ c' then 6 else 0
section
variable {x : Int} {c : Bool} {s dz : List Int} {c' : Bool} {s' dz' : List Int}
theorem jnP_zero : jnP x c s dz c' s' dz' = 0 ↔ flawE c s dz = 0 ∧ flawE c' s' dz' = 0 ∧ s.length = s'.length ∧ 0 ≤ x ∧ x.toNat < s.length ∧ othB x.toNat s s' = true ∧ c = c' := by
  unfold jnP
  by_cases h1 : flawE c s dz = 0
  · rw [if_neg (by simpa using h1)]
    by_cases h2 : flawE c' s' dz' = 0
    · rw [if_neg (by simpa using h2)]
      by_cases h3 : s.length = s'.length
      · rw [if_neg (by simpa using h3)]
        by_cases h4 : x < 0 ∨ (s.length : Int) ≤ x
        · rw [if_pos h4]; exact ⟨fun e => absurd e (by decide), fun e => by omega⟩
        · rw [if_neg h4]
          cases h5 : othB x.toNat s s'
          · simp
          · rw [if_neg (by simp)]
            by_cases h6 : c = c'
            · rw [if_neg (by simpa using h6)]
              exact ⟨fun e => ⟨h1, h2, h3, by omega, by omega, rfl, h6⟩, fun e => rfl⟩
            · rw [if_pos h6]; exact ⟨fun e => absurd e (by decide), fun e => absurd e.2.2.2.2.2.2 h6⟩
      · rw [if_pos h3]; exact ⟨fun e => absurd e (by decide), fun e => absurd e.2.2.1 h3⟩
    · rw [if_pos h2]; exact ⟨fun e => absurd e h2, fun e => absurd e.2.1 h2⟩
  · rw [if_pos h1]; exact ⟨fun e => absurd e h1, fun e => absurd e.1 h1⟩
theorem jnE_pair (h : jnP x c s dz c' s' dz' ≠ 0) : jnE x c s dz c' s' dz' = jnP x c s dz c' s' dz' := by
  unfold jnE jnP at *
  by_cases h1 : flawE c s dz = 0
  · rw [if_neg (show ¬ flawE c s dz ≠ 0 by simpa using h1)] at h
    rw [if_neg (show ¬ flawE c s dz ≠ 0 by simpa using h1), if_neg (show ¬ flawE c s dz ≠ 0 by simpa using h1)]
    by_cases h2 : flawE c' s' dz' = 0
    · rw [if_neg (show ¬ flawE c' s' dz' ≠ 0 by simpa using h2)] at h
      rw [if_neg (show ¬ flawE c' s' dz' ≠ 0 by simpa using h2), if_neg (show ¬ flawE c' s' dz' ≠ 0 by simpa using h2)]
      by_cases h3 : s.length = s'.length
      · rw [if_neg (show ¬ s.length ≠ s'.length by simpa using h3)] at h
        rw [if_neg (show ¬ s.length ≠ s'.length by simpa using h3), if_neg (show ¬ s.length ≠ s'.length by simpa using h3)]
        by_cases h4 : x < 0 ∨ (s.length : Int) ≤ x
        · rw [if_pos h4, if_pos h4]
        · rw [if_neg h4] at h
          rw [if_neg h4, if_neg h4]
          by_cases h5 : othB x.toNat s s' = false
          · rw [if_pos h5, if_pos h5]
          · rw [if_neg h5] at h
            rw [if_neg h5, if_neg h5]
            by_cases h6 : c = c'
            · rw [if_neg (show ¬ c ≠ c' by simpa using h6)] at h; exact absurd rfl h
            · rw [if_pos h6, if_pos h6]
      · rw [if_pos h3, if_pos h3]
    · rw [if_pos h2, if_pos h2]
  · rw [if_pos h1, if_pos h1]
theorem jnE_fit (h : jnP x c s dz c' s' dz' = 0) : jnE x c s dz c' s' dz' = errOf (jnS x.toNat s s') := by
  obtain ⟨h1, h2, h3, h4, h5, h6, h7⟩ := jnP_zero.1 h
  unfold jnE
  rw [if_neg (by simpa using h1), if_neg (by simpa using h2), if_neg (by simpa using h3), if_neg (by omega), if_neg (by rw [h6]; decide), if_neg (by simpa using h7)]
theorem jnP_a (h : flawE c s dz ≠ 0) : jnP x c s dz c' s' dz' = flawE c s dz := by unfold jnP; rw [if_pos h]
theorem jnP_b (h1 : flawE c s dz = 0) (h : flawE c' s' dz' ≠ 0) : jnP x c s dz c' s' dz' = flawE c' s' dz' := by unfold jnP; rw [if_neg (by simpa using h1), if_pos h]
theorem jnP_3 (h1 : flawE c s dz = 0) (h2 : flawE c' s' dz' = 0) (h : s.length ≠ s'.length) : jnP x c s dz c' s' dz' = 3 := by unfold jnP; rw [if_neg (by simpa using h1), if_neg (by simpa using h2), if_pos h]
theorem jnP_5 (h1 : flawE c s dz = 0) (h2 : flawE c' s' dz' = 0) (h3 : s.length = s'.length) (h : x < 0 ∨ (s.length : Int) ≤ x) : jnP x c s dz c' s' dz' = 5 := by unfold jnP; rw [if_neg (by simpa using h1), if_neg (by simpa using h2), if_neg (by simpa using h3), if_pos h]
theorem jnP_4 (h1 : flawE c s dz = 0) (h2 : flawE c' s' dz' = 0) (h3 : s.length = s'.length) (h4 : ¬ (x < 0 ∨ (s.length : Int) ≤ x)) (h : othB x.toNat s s' = false) : jnP x c s dz c' s' dz' = 4 := by unfold jnP; rw [if_neg (by simpa using h1), if_neg (by simpa using h2), if_neg (by simpa using h3), if_neg h4, if_pos h]
theorem jnP_6 (h1 : flawE c s dz = 0) (h2 : flawE c' s' dz' = 0) (h3 : s.length = s'.length) (h4 : ¬ (x < 0 ∨ (s.length : Int) ≤ x)) (h5 : othB x.toNat s s' = true) (h : c ≠ c') : jnP x c s dz c' s' dz' = 6 := by unfold jnP; rw [if_neg (by simpa using h1), if_neg (by simpa using h2), if_neg (by simpa using h3), if_neg h4, if_neg (by rw [h5]; decide), if_pos h]
theorem jnP_0 (h1 : flawE c s dz = 0) (h2 : flawE c' s' dz' = 0) (h3 : s.length = s'.length) (h4 : ¬ (x < 0 ∨ (s.length : Int) ≤ x)) (h5 : othB x.toNat s s' = true) (h : c = c') : jnP x c s dz c' s' dz' = 0 := jnP_zero.2 ⟨h1, h2, h3, by omega, by omega, h5, h⟩
theorem oth_bad {x k : Nat} (hk : k < s.length) (hn : k ≠ x) (h : nth s k ≠ nth s' k) : othB x s s' = false := by
  cases e : othB x s s'
  · rfl
  · exact absurd (othB_iff.1 e k hk hn) h
end
set_option maxRecDepth 100000 in
set_option maxHeartbeats 4000000 in
theorem pair_any (x : Int) (hx : In64 x) (c : Bool) (sa : Option Addr) (sc : Nat) (sz : List Int) (da : Option Addr) (dc : Nat) (dz : List Int) (c' : Bool) (sa' : Option Addr) (sc' : Nat) (sz' : List Int) (da' : Option Addr) (dc' : Nat) (dz' : List Int) (h1 : sz.length ≤ 9223372036854775807) (h2 : dz.length ≤ 9223372036854775807) (h1' : sz'.length ≤ 9223372036854775807) (h2' : dz'.length ≤ 9223372036854775807) (w : World)
    (hs : IsInts w.heap.size w sa sz) (hd : IsInts w.heap.size w da dz) (hs' : IsInts w.heap.size w sa' sz') (hd' : IsInts w.heap.size w da' dz') :
    Calls Tryd.prog 23 #[.int .i64 x, .agg #[.bool c, .slice sa sz.length sc, .slice da dz.length dc], .agg #[.bool c', .slice sa' sz'.length sc', .slice da' dz'.length dc']] w fun e w' => e = .returned (errV (jnP x c sz dz c' sz' dz')) ∧ Below w.heap.size w w' := by
  have HI : Hid (IsInts w.heap.size w sa sz ∧ IsInts w.heap.size w da dz ∧ IsInts w.heap.size w sa' sz' ∧ IsInts w.heap.size w da' dz') := ⟨hs, hd, hs', hd'⟩
  have HB0 : Hid (Below w.heap.size w ((w.alloc (.cells #[.bool c, .slice sa sz.length sc, .slice da dz.length dc] 25)).alloc (.cells #[.bool c', .slice sa' sz'.length sc', .slice da' dz'.length dc'] 25))) := ((Below.refl _ w).alloc (Nat.le_refl _) _).alloc (by simp) _
  have pa := (Abx.new w (.bool c) (.slice sa sz.length sc) (.slice da dz.length dc)).al (.cells #[.bool c', .slice sa' sz'.length sc', .slice da' dz'.length dc'] 25)
  have pb := Abx.new1 w (.cells #[.bool c, .slice sa sz.length sc, .slice da dz.length dc] 25) (.bool c') (.slice sa' sz'.length sc') (.slice da' dz'.length dc')
  have p0 := pa.c0
  have p1 := pa.c1
  have p2 := pa.c2
  obtain ⟨hx0, hx1⟩ := hx
  clear hs hd hs' hd'
  by_cases h3 : flawE c sz dz = 0
  · have H3 : Hid (flawE c sz dz = 0) := h3
    clear h3
    go_enter Tryd.func23, Tryd.ntmps23
    go_wp2_with fail
    refine (check_ok c sa sc sz da dc dz h1 h2 _ ((HI.out.1.below HB0.out).mono HB0.out.size) ((HI.out.2.1.below HB0.out).mono HB0.out.size) H3.out).mono ?_
    rintro e v1 ⟨rfl, hC⟩
    have HB1 : Hid (Below w.heap.size w v1) := HB0.out.trans (hC.mono HB0.out.size)
    have HP1 : Hid (Abx v1 w.heap.size (.bool c) (.slice sa sz.length sc) (.slice da dz.length dc)) := pa.go hC
    have HQ1 : Hid (Abx v1 (w.heap.size + 1) (.bool c') (.slice sa' sz'.length sc') (.slice da' dz'.length dc')) := pb.go hC
    clear hC pa pb p0 p1 p2 HB0
    have q0 := HQ1.out.c0
    have q1 := HQ1.out.c1
    have q2 := HQ1.out.c2
    by_cases h4 : flawE c' sz' dz' = 0
    · have H4 : Hid (flawE c' sz' dz' = 0) := h4
      clear h4
      go_wp2_with fail
      refine (check_ok c' sa' sc' sz' da' dc' dz' h1' h2' v1 ((HI.out.2.2.1.below HB1.out).mono HB1.out.size) ((HI.out.2.2.2.below HB1.out).mono HB1.out.size) H4.out).mono ?_
      rintro e v2 ⟨rfl, hC⟩
      have HB2 : Hid (Below w.heap.size w v2) := HB1.out.trans (hC.mono HB1.out.size)
      have HP2 : Hid (Abx v2 w.heap.size (.bool c) (.slice sa sz.length sc) (.slice da dz.length dc)) := HP1.out.go hC
      have HQ2 : Hid (Abx v2 (w.heap.size + 1) (.bool c') (.slice sa' sz'.length sc') (.slice da' dz'.length dc')) := HQ1.out.go hC
      clear hC q0 q1 q2 HP1 HQ1 HB1
      have a1 := HP2.out.c1
      have b1 := HQ2.out.c1
      by_cases hl : sz.length = sz'.length
      · have HL : Hid (sz.length = sz'.length) := hl
        have hne : ((sz.length : Int) != (sz'.length : Int)) = false := by simp [hl]
        clear hl
        by_cases hax : x < 0 ∨ (sz.length : Int) ≤ x
        · have HE : Hid (jnP x c sz dz c' sz' dz' = 5) := jnP_5 H3.out H4.out HL.out hax
          rcases hax with hax | hax
          all_goals
            go_wp2_with fail
            go_ret
            exact ⟨by rw [HE.out]; rfl, HB2.out⟩
        · obtain ⟨xn, rfl⟩ : ∃ xn : Nat, x = (xn : Int) := ⟨x.toNat, by omega⟩
          have HX : Hid (¬ ((xn : Int) < 0 ∨ (sz.length : Int) ≤ (xn : Int))) := hax
          have hxl : xn < sz.length := by omega
          have t0 : ¬ ((sz.length : Int) ≤ (xn : Int)) := by omega
          clear hax hx0 hx1
          go_wp2_with fail
          clear hne t0
          go_loopw [42] (fun i wr => ∃ k : Nat, k ≤ sz.length ∧ i = .int .i64 k ∧ Hid (∀ j, j < k → j ≠ xn → nth sz j = nth sz' j) ∧ wr = v2) (fun i _ => sz.length - (intOf i).toNat)
          case atStart => exact ⟨0, Nat.zero_le _, rfl, fun j hj => absurd hj (Nat.not_lt_zero j), rfl⟩
          case round =>
            obtain ⟨k, hk, rfl, HA, hv⟩ := hrel
            obtain rfl := hv.symm
            by_cases hlt : k < sz.length
            · obtain ⟨bs, os, rfl, hbs, hcS⟩ := (HI.out.1.below HB2.out).at hlt
              have cs := hcS k hlt
              have hlt' : k < sz'.length := by rw [← HL.out]; exact hlt
              obtain ⟨bt, ot, rfl, hbt, hcT⟩ := (HI.out.2.2.1.below HB2.out).at hlt'
              have ct := hcT k hlt'
              clear hcS hcT
              by_cases hkx : k = xn
              · have HA2 : Hid (∀ j, j < k + 1 → j ≠ xn → nth sz j = nth sz' j) := fun j hj hn => HA.out j (by omega) hn
                have t1 : ((k : Int) != (xn : Int)) = false := by simp [hkx]
                clear hkx
                go_wp2_with fail
                exact ⟨⟨k + 1, by omega, by go_num, HA2, by first | rfl | trivial⟩, by simp [intOf]; omega⟩
              · have t1 : ((k : Int) != (xn : Int)) = true := by simp; omega
                have t2 : ¬ ((k : Int) = (xn : Int)) := by omega
                by_cases hc : nth sz k = nth sz' k
                · have HA2 : Hid (∀ j, j < k + 1 → j ≠ xn → nth sz j = nth sz' j) := fun j hj hn => by
                    by_cases e : j = k
                    · subst e; exact hc
                    · exact HA.out j (by omega) hn
                  rw [hc] at cs
                  clear hc hkx
                  go_wp2_with fail
                  exact ⟨⟨k + 1, by omega, by go_num, HA2, by first | rfl | trivial⟩, by simp [intOf]; omega⟩
                · have HE : Hid (jnP (xn : Int) c sz dz c' sz' dz' = 4) := jnP_4 H3.out H4.out HL.out HX.out (by rw [Int.toNat_natCast]; exact oth_bad hlt hkx hc)
                  have t3 : (nth sz k != nth sz' k) = true := by simpa using hc
                  clear hkx
                  go_wp2_with fail
                  go_ret
                  exact ⟨by rw [HE.out]; rfl, HB2.out⟩
            · obtain rfl : k = sz.length := by omega
              have HO : Hid (othB (xn : Int).toNat sz sz' = true) := by show _ = _; rw [Int.toNat_natCast]; exact othB_iff.2 HA.out
              have e0 := HP2.out.c0
              have g0 := HQ2.out.c0
              by_cases hcc : c = c'
              · have HE : Hid (jnP (xn : Int) c sz dz c' sz' dz' = 0) := jnP_0 H3.out H4.out HL.out HX.out HO.out hcc
                have t3 : (c != c') = false := by simp [hcc]
                have t4 : (c == c') = true := by simp [hcc]
                clear hcc
                go_wp2_with fail
                go_ret
                exact ⟨by rw [HE.out]; rfl, HB2.out⟩
              · have HE : Hid (jnP (xn : Int) c sz dz c' sz' dz' = 6) := jnP_6 H3.out H4.out HL.out HX.out HO.out hcc
                have t3 : (c != c') = true := by simpa using hcc
                have t4 : (c == c') = false := by simpa using hcc
                go_wp2_with fail
                go_ret
                exact ⟨by rw [HE.out]; rfl, HB2.out⟩
      · have HE : Hid (jnP x c sz dz c' sz' dz' = 3) := jnP_3 H3.out H4.out hl
        have hne : ((sz.length : Int) != (sz'.length : Int)) = true := by simp; omega
        go_wp2_with fail
        go_ret
        exact ⟨by rw [HE.out]; rfl, HB2.out⟩
    · have H4 : Hid (flawE c' sz' dz' ≠ 0) := h4
      have HE : Hid (jnP x c sz dz c' sz' dz' = flawE c' sz' dz') := jnP_b H3.out h4
      clear h4
      go_wp2_with fail
      refine (check_no c' sa' sc' sz' da' dc' dz' h1' h2' v1 ((HI.out.2.2.1.below HB1.out).mono HB1.out.size) ((HI.out.2.2.2.below HB1.out).mono HB1.out.size) H4.out).mono ?_
      rintro e v2 ⟨rfl, hC⟩
      have HB2 : Hid (Below w.heap.size w v2) := HB1.out.trans (hC.mono HB1.out.size)
      clear hC
      go_wp2_with fail
      go_ret
      exact ⟨by first | (rw [HE.out, errV_pos H4.out]; done) | (rw [HE.out, errV_pos H4.out]; rfl), HB2.out⟩
  · have H3 : Hid (flawE c sz dz ≠ 0) := h3
    have HE : Hid (jnP x c sz dz c' sz' dz' = flawE c sz dz) := jnP_a h3
    clear h3
    go_enter Tryd.func23, Tryd.ntmps23
    go_wp2_with fail
    refine (check_no c sa sc sz da dc dz h1 h2 _ ((HI.out.1.below HB0.out).mono HB0.out.size) ((HI.out.2.1.below HB0.out).mono HB0.out.size) H3.out).mono ?_
    rintro e v1 ⟨rfl, hC⟩
    have HB1 : Hid (Below w.heap.size w v1) := HB0.out.trans (hC.mono HB0.out.size)
    clear hC pa pb p0 p1 p2 HB0
    go_wp2_with fail
    go_ret
    exact ⟨by first | (rw [HE.out, errV_pos H3.out]; done) | (rw [HE.out, errV_pos H3.out]; rfl), HB1.out⟩
end Go.Proofs.YtmbgomljofngnacDoor
