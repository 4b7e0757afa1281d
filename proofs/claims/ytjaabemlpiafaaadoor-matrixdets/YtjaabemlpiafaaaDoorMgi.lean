/-
  What the program's matrices are read from and told as; what is wrong with an array that should be one.
-/
import Derived.BigQuiet
import Derived.Test.YtjaabemlpiafaaaDoorMga
import Derived.Test.YtjaabemlpiafaaaDoorBase
import Derived.Test.YtjaabemlpiafaaaDoorCapi
namespace Go.Proofs.YtjaabemlpiafaaaDoor
open Go.RowKit
set_option linter.unusedVariables false

/-- What is wrong with an array that should be a matrix. -/
def mxE (c : Bool) (sz dz : List Int) : Int := if flawE c sz dz ≠ 0 then flawE c sz dz else if sz.length ≠ 2 then 3 else if nth sz 0 ≠ nth sz 1 then 4 else if 6 < nth sz 0 then 7 else if c = true then 6 else 0
section
variable {c : Bool} {sz dz : List Int}
theorem mxE_flaw (h : flawE c sz dz ≠ 0) : mxE c sz dz = flawE c sz dz := if_pos h
theorem mxE_rank (h : flawE c sz dz = 0) (hl : sz.length ≠ 2) : mxE c sz dz = 3 := by unfold mxE; rw [if_neg (by omega), if_pos hl]
theorem mxE_len (h : flawE c sz dz = 0) (hl : sz.length = 2) (hn : nth sz 0 ≠ nth sz 1) : mxE c sz dz = 4 := by unfold mxE; rw [if_neg (by omega), if_neg (by omega), if_pos hn]
theorem mxE_full (h : flawE c sz dz = 0) (hl : sz.length = 2) (hn : nth sz 0 = nth sz 1) (h6 : 6 < nth sz 0) : mxE c sz dz = 7 := by unfold mxE; rw [if_neg (by omega), if_neg (by omega), if_neg (by omega), if_pos h6]
theorem mxE_char (h : flawE c sz dz = 0) (hl : sz.length = 2) (hn : nth sz 0 = nth sz 1) (h6 : ¬ 6 < nth sz 0) (hc : c = true) : mxE c sz dz = 6 := by unfold mxE; rw [if_neg (by omega), if_neg (by omega), if_neg (by omega), if_neg h6, if_pos hc]
theorem mxE_ok (h : flawE c sz dz = 0) (hl : sz.length = 2) (hn : nth sz 0 = nth sz 1) (h6 : ¬ 6 < nth sz 0) (hc : c = false) : mxE c sz dz = 0 := by unfold mxE; rw [if_neg (by omega), if_neg (by omega), if_neg (by omega), if_neg h6, if_neg (by rw [hc]; decide)]
theorem mxE_zero (h : mxE c sz dz = 0) : flawE c sz dz = 0 ∧ sz.length = 2 ∧ nth sz 0 = nth sz 1 ∧ ¬ 6 < nth sz 0 ∧ c = false := by
  by_cases h1 : flawE c sz dz = 0
  · by_cases h2 : sz.length = 2
    · by_cases h3 : nth sz 0 = nth sz 1
      · by_cases h4 : 6 < nth sz 0
        · rw [mxE_full h1 h2 h3 h4] at h; exact absurd h (by decide)
        · by_cases h5 : c = true
          · rw [mxE_char h1 h2 h3 h4 h5] at h; exact absurd h (by decide)
          · exact ⟨h1, h2, h3, h4, by simpa using h5⟩
      · rw [mxE_len h1 h2 h3] at h; exact absurd h (by decide)
    · rw [mxE_rank h1 h2] at h; exact absurd h (by decide)
  · rw [mxE_flaw h1] at h; exact absurd h h1
theorem err_sq {n : Nat} (hn : n ≤ 6) : errOf [(n : Int), (n : Int)] = 0 := by
  refine errOf_zero.2 ⟨by simp, fun x hx => ?_, ?_⟩
  · simp only [List.mem_cons, List.not_mem_nil, or_false] at hx
    rcases hx with rfl | rfl <;> omega
  · have h : (n : Int) * (n : Int) ≤ 6 * 6 := Int.mul_le_mul (by omega) (by omega) (by omega) (by omega)
    simp only [prod, Int.mul_one]
    omega
/-- A matrix is its number of rows and its cells. -/
theorem mx_is (h : mxE c sz dz = 0) : ∃ n : Nat, n ≤ 6 ∧ sz = [(n : Int), (n : Int)] ∧ dz.length = n * n ∧ c = false := by
  obtain ⟨h1, h2, h3, h4, h5⟩ := mxE_zero h
  obtain ⟨he, hp, _⟩ := flawE_zero h1
  match sz, h2 with
  | [a, b], _ =>
    have e : a = b := h3
    subst e
    have ha : 0 ≤ a := ((errOf_zero.1 he).2.1.nth 0).1
    obtain ⟨n, rfl⟩ := Int.eq_ofNat_of_zero_le ha
    have h6 : ¬ (6 : Int) < (n : Int) := h4
    refine ⟨n, by omega, rfl, ?_, h5⟩
    have : (dz.length : Int) = (n : Int) * (n : Int) := by rw [hp]; simp [prod]
    exact_mod_cast this
theorem mx_of (n : Nat) (hn : n ≤ 6) (dz : List Int) (hd : dz.length = n * n) : mxE false [(n : Int), (n : Int)] dz = 0 := by
  have he : errOf [(n : Int), (n : Int)] = 0 := err_sq hn
  refine mxE_ok (flawE_okn he ?_) rfl rfl (by show ¬ (6 : Int) < (n : Int); omega) rfl
  rw [hd]
  simp [prod]
end
set_option maxRecDepth 100000 in
set_option maxHeartbeats 2000000 in
theorem mcheck_any (c : Bool) (sa : Option Addr) (sc : Nat) (sz : List Int) (da : Option Addr) (dc : Nat) (dz : List Int) (w : World) (h1 : sz.length ≤ 9223372036854775807) (h2 : dz.length ≤ 9223372036854775807) (hs : IsInts w.heap.size w sa sz) (hd : IsInts w.heap.size w da dz) :
    Calls Tryd.prog 42 #[.agg #[.bool c, .slice sa sz.length sc, .slice da dz.length dc]] w fun e w' => e = .returned (errV (mxE c sz dz)) ∧ Below w.heap.size w w' := by
  have HB0 : Hid (Below w.heap.size w (w.alloc (.cells #[.bool c, .slice sa sz.length sc, .slice da dz.length dc] 24))) := (Below.refl _ w).alloc (Nat.le_refl _) _
  have pa := Abx.new w (.bool c) (.slice sa sz.length sc) (.slice da dz.length dc)
  have HA : Hid (Abx (w.alloc (.cells #[.bool c, .slice sa sz.length sc, .slice da dz.length dc] 24)) w.heap.size (.bool c) (.slice sa sz.length sc) (.slice da dz.length dc)) := pa
  have p0 := pa.c0
  have p1 := pa.c1
  have p2 := pa.c2
  have HI : Hid (IsInts w.heap.size w sa sz ∧ IsInts w.heap.size w da dz) := ⟨hs, hd⟩
  clear pa hs hd
  by_cases hF : flawE c sz dz = 0
  · have hC := check_ok c sa sc sz da dc dz h1 h2 (w.alloc (.cells #[.bool c, .slice sa sz.length sc, .slice da dz.length dc] 24)) ((HI.out.1.below HB0.out).mono HB0.out.size) ((HI.out.2.below HB0.out).mono HB0.out.size) hF
    have HF : Hid (flawE c sz dz = 0) := hF
    clear hF
    by_cases hl : sz.length = 2
    · obtain ⟨x, hx⟩ : ∃ x, nth sz 0 = x := ⟨_, rfl⟩
      obtain ⟨y, hy⟩ : ∃ y, nth sz 1 = y := ⟨_, rfl⟩
      have HL : Hid (sz.length = 2) := hl
      have HX : Hid (nth sz 0 = x) := hx
      have HY : Hid (nth sz 1 = y) := hy
      have l1 : (1 : Int) < (sz.length : Int) := by omega
      have l0 : (0 : Int) < (sz.length : Int) := by omega
      rw [hl] at hC p1 HA HB0 ⊢
      clear hl hx hy l1 l0
      by_cases hxy : x = y
      · have t1 : (x != y) = false := by rw [hxy]; simp
        have HXY : Hid (x = y) := hxy
        clear hxy
        by_cases h6 : 6 < x
        · have HE : Hid (mxE c sz dz = 7) := mxE_full HF.out HL.out (by rw [HX.out, HY.out]; exact HXY.out) (by rw [HX.out]; exact h6)
          go_enter Tryd.func42, Tryd.ntmps42
          go_wp2_with fail
          refine hC.mono ?_
          rintro e v1 ⟨rfl, hB⟩
          have HB1 : Hid (Below w.heap.size w v1) := HB0.out.trans (hB.mono HB0.out.size)
          have q := HA.out.go hB
          have q0 := q.c0
          have q1 := q.c1
          have q2 := q.c2
          obtain ⟨b, off, hab, hb, hc⟩ := (HI.out.1.below HB1.out).at (q := 0) (by rw [HL.out]; decide)
          subst hab
          have k0 := hc 0 (by rw [HL.out]; decide)
          have k1 := hc 1 (by rw [HL.out]; decide)
          rw [Nat.add_zero] at k0
          rw [HX.out] at k0
          rw [HY.out] at k1
          clear hc
          clear hC hB q p0 p1 p2 HA HB0
          go_wp2_with fail
          go_quiet (fail)
          go_wp2_with fail
          go_ret
          exact ⟨by rw [HE.out]; rfl, bel_drewN HB1.out _⟩
        · by_cases hcc : c = true
          · have HE : Hid (mxE c sz dz = 6) := mxE_char HF.out HL.out (by rw [HX.out, HY.out]; exact HXY.out) (by rw [HX.out]; exact h6) hcc
            subst hcc
            go_enter Tryd.func42, Tryd.ntmps42
            go_wp2_with fail
            refine hC.mono ?_
            rintro e v1 ⟨rfl, hB⟩
            have HB1 : Hid (Below w.heap.size w v1) := HB0.out.trans (hB.mono HB0.out.size)
            have q := HA.out.go hB
            have q0 := q.c0
            have q1 := q.c1
            have q2 := q.c2
            obtain ⟨b, off, hab, hb, hc⟩ := (HI.out.1.below HB1.out).at (q := 0) (by rw [HL.out]; decide)
            subst hab
            have k0 := hc 0 (by rw [HL.out]; decide)
            have k1 := hc 1 (by rw [HL.out]; decide)
            rw [Nat.add_zero] at k0
            rw [HX.out] at k0
            rw [HY.out] at k1
            clear hc
            clear hC hB q p0 p1 p2 HA HB0
            go_wp2_with fail
            go_quiet (fail)
            go_wp2_with fail
            go_ret
            exact ⟨by rw [HE.out]; rfl, bel_drewN HB1.out _⟩
          · obtain rfl : c = false := by simpa using hcc
            have HE : Hid (mxE false sz dz = 0) := mxE_ok HF.out HL.out (by rw [HX.out, HY.out]; exact HXY.out) (by rw [HX.out]; exact h6) rfl
            go_enter Tryd.func42, Tryd.ntmps42
            go_wp2_with fail
            refine hC.mono ?_
            rintro e v1 ⟨rfl, hB⟩
            have HB1 : Hid (Below w.heap.size w v1) := HB0.out.trans (hB.mono HB0.out.size)
            have q := HA.out.go hB
            have q0 := q.c0
            have q1 := q.c1
            have q2 := q.c2
            obtain ⟨b, off, hab, hb, hc⟩ := (HI.out.1.below HB1.out).at (q := 0) (by rw [HL.out]; decide)
            subst hab
            have k0 := hc 0 (by rw [HL.out]; decide)
            have k1 := hc 1 (by rw [HL.out]; decide)
            rw [Nat.add_zero] at k0
            rw [HX.out] at k0
            rw [HY.out] at k1
            clear hc
            clear hC hB q p0 p1 p2 HA HB0
            go_wp2_with fail
            go_quiet (fail)
            go_wp2_with fail
            go_ret
            exact ⟨by rw [HE.out]; rfl, bel_drewN HB1.out _⟩
      · have t1 : (x != y) = true := by simpa using hxy
        have HE : Hid (mxE c sz dz = 4) := mxE_len HF.out HL.out (by rw [HX.out, HY.out]; exact hxy)
        clear hxy
        go_enter Tryd.func42, Tryd.ntmps42
        go_wp2_with fail
        refine hC.mono ?_
        rintro e v1 ⟨rfl, hB⟩
        have HB1 : Hid (Below w.heap.size w v1) := HB0.out.trans (hB.mono HB0.out.size)
        have q := HA.out.go hB
        have q0 := q.c0
        have q1 := q.c1
        have q2 := q.c2
        obtain ⟨b, off, hab, hb, hc⟩ := (HI.out.1.below HB1.out).at (q := 0) (by rw [HL.out]; decide)
        subst hab
        have k0 := hc 0 (by rw [HL.out]; decide)
        have k1 := hc 1 (by rw [HL.out]; decide)
        rw [Nat.add_zero] at k0
        rw [HX.out] at k0
        rw [HY.out] at k1
        clear hc
        clear hC hB q p0 p1 p2 HA HB0
        go_wp2_with fail
        go_quiet (fail)
        go_wp2_with fail
        go_ret
        exact ⟨by rw [HE.out]; rfl, bel_drewN HB1.out _⟩
    · have t0 : ((sz.length : Int) != 2) = true := by simp; omega
      have HE : Hid (mxE c sz dz = 3) := mxE_rank HF.out hl
      clear hl
      go_enter Tryd.func42, Tryd.ntmps42
      go_wp2_with fail
      refine hC.mono ?_
      rintro e v1 ⟨rfl, hB⟩
      have HB1 : Hid (Below w.heap.size w v1) := HB0.out.trans (hB.mono HB0.out.size)
      have q := HA.out.go hB
      have q0 := q.c0
      have q1 := q.c1
      have q2 := q.c2
      clear hC hB q p0 p1 p2 HA HB0
      go_wp2_with fail
      go_ret
      exact ⟨by rw [HE.out]; rfl, HB1.out⟩
  · have hC := check_no c sa sc sz da dc dz h1 h2 (w.alloc (.cells #[.bool c, .slice sa sz.length sc, .slice da dz.length dc] 24)) ((HI.out.1.below HB0.out).mono HB0.out.size) ((HI.out.2.below HB0.out).mono HB0.out.size) hF
    have HE : Hid (mxE c sz dz = flawE c sz dz ∧ flawE c sz dz ≠ 0) := ⟨mxE_flaw hF, hF⟩
    clear hF
    go_enter Tryd.func42, Tryd.ntmps42
    go_wp2_with fail
    refine hC.mono ?_
    rintro e v1 ⟨rfl, hB⟩
    have HB1 : Hid (Below w.heap.size w v1) := HB0.out.trans (hB.mono HB0.out.size)
    have q := HA.out.go hB
    have q0 := q.c0
    have q1 := q.c1
    have q2 := q.c2
    clear hC hB q p0 p1 p2 HA HB0
    go_wp2_with fail
    go_ret
    exact ⟨ret_err (by rw [HE.out.1, errV_pos HE.out.2]; rfl), HB1.out⟩
end Go.Proofs.YtjaabemlpiafaaaDoor
