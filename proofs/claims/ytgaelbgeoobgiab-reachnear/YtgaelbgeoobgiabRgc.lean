/-
  What is wrong with an array that should be a relation; the program's look at it.
-/
import Derived.BigQuiet
import Derived.Test.YtgaelbgeoobgiabRga
import Derived.Test.YtgaelbgeoobgiabBase
import Derived.Test.YtgaelbgeoobgiabCapi
import Derived.Test.YtgaelbgeoobgiabCutm
namespace Go.Proofs.Ytgaelbgeoobgiab
open Go.RowKit
set_option linter.unusedVariables false

/-- What is wrong with an array that should have as many rows as columns. -/
def sqE (c : Bool) (sz dz : List Int) : Int := if flawE c sz dz ≠ 0 then flawE c sz dz else if sz.length ≠ 2 then 3 else if nth sz 0 ≠ nth sz 1 then 4 else if 24 < nth sz 0 then 7 else if c = true then 6 else 0
section
variable {c : Bool} {sz dz : List Int}
theorem sqE_flaw (h : flawE c sz dz ≠ 0) : sqE c sz dz = flawE c sz dz := if_pos h
theorem sqE_rank (h : flawE c sz dz = 0) (hl : sz.length ≠ 2) : sqE c sz dz = 3 := by unfold sqE; rw [if_neg (by omega), if_pos hl]
theorem sqE_len (h : flawE c sz dz = 0) (hl : sz.length = 2) (hn : nth sz 0 ≠ nth sz 1) : sqE c sz dz = 4 := by unfold sqE; rw [if_neg (by omega), if_neg (by omega), if_pos hn]
theorem sqE_full (h : flawE c sz dz = 0) (hl : sz.length = 2) (hn : nth sz 0 = nth sz 1) (h6 : 24 < nth sz 0) : sqE c sz dz = 7 := by unfold sqE; rw [if_neg (by omega), if_neg (by omega), if_neg (by omega), if_pos h6]
theorem sqE_char (h : flawE c sz dz = 0) (hl : sz.length = 2) (hn : nth sz 0 = nth sz 1) (h6 : ¬ 24 < nth sz 0) (hc : c = true) : sqE c sz dz = 6 := by unfold sqE; rw [if_neg (by omega), if_neg (by omega), if_neg (by omega), if_neg h6, if_pos hc]
theorem sqE_ok (h : flawE c sz dz = 0) (hl : sz.length = 2) (hn : nth sz 0 = nth sz 1) (h6 : ¬ 24 < nth sz 0) (hc : c = false) : sqE c sz dz = 0 := by unfold sqE; rw [if_neg (by omega), if_neg (by omega), if_neg (by omega), if_neg h6, if_neg (by rw [hc]; decide)]
theorem sqE_zero (h : sqE c sz dz = 0) : flawE c sz dz = 0 ∧ sz.length = 2 ∧ nth sz 0 = nth sz 1 ∧ ¬ 24 < nth sz 0 ∧ c = false := by
  by_cases h1 : flawE c sz dz = 0
  · by_cases h2 : sz.length = 2
    · by_cases h3 : nth sz 0 = nth sz 1
      · by_cases h4 : 24 < nth sz 0
        · rw [sqE_full h1 h2 h3 h4] at h; exact absurd h (by decide)
        · by_cases h5 : c = true
          · rw [sqE_char h1 h2 h3 h4 h5] at h; exact absurd h (by decide)
          · exact ⟨h1, h2, h3, h4, by simpa using h5⟩
      · rw [sqE_len h1 h2 h3] at h; exact absurd h (by decide)
    · rw [sqE_rank h1 h2] at h; exact absurd h (by decide)
  · rw [sqE_flaw h1] at h; exact absurd h h1
theorem err_sq15 {n : Nat} (hn : n ≤ 24) : errOf [(n : Int), (n : Int)] = 0 := by
  refine errOf_zero.2 ⟨by simp, fun x hx => ?_, ?_⟩
  · simp only [List.mem_cons, List.not_mem_nil, or_false] at hx
    rcases hx with rfl | rfl <;> omega
  · have h : (n : Int) * (n : Int) ≤ 24 * 24 := Int.mul_le_mul (by omega) (by omega) (by omega) (by omega)
    simp only [prod, Int.mul_one]
    omega
/-- It is its number of rows and its cells. -/
theorem sq_is (h : sqE c sz dz = 0) : ∃ n : Nat, n ≤ 24 ∧ sz = [(n : Int), (n : Int)] ∧ dz.length = n * n ∧ c = false := by
  obtain ⟨h1, h2, h3, h4, h5⟩ := sqE_zero h
  obtain ⟨he, hp, _⟩ := flawE_zero h1
  match sz, h2 with
  | [a, b], _ =>
    have e : a = b := h3
    subst e
    have ha : 0 ≤ a := ((errOf_zero.1 he).2.1.nth 0).1
    obtain ⟨n, rfl⟩ := Int.eq_ofNat_of_zero_le ha
    have h6 : ¬ (24 : Int) < (n : Int) := h4
    refine ⟨n, by omega, rfl, ?_, h5⟩
    have : (dz.length : Int) = (n : Int) * (n : Int) := by rw [hp]; simp [prod]
    exact_mod_cast this
theorem sq_of15 (n : Nat) (hn : n ≤ 24) (dz : List Int) (hd : dz.length = n * n) : sqE false [(n : Int), (n : Int)] dz = 0 := by
  have he : errOf [(n : Int), (n : Int)] = 0 := err_sq15 hn
  refine sqE_ok (flawE_okn he ?_) rfl rfl (by show ¬ (24 : Int) < (n : Int); omega) rfl
  rw [hd]
  simp [prod]
end
/-- What is wrong with an array that should be a relation. -/
def rlE (c : Bool) (sz dz : List Int) : Int := if sqE c sz dz ≠ 0 then sqE c sz dz else if mskB dz = true then 0 else 6
section
variable {c : Bool} {sz dz : List Int}
theorem rlE_sq (h : sqE c sz dz ≠ 0) : rlE c sz dz = sqE c sz dz := if_pos h
theorem rlE_flaw (h : flawE c sz dz ≠ 0) : rlE c sz dz = flawE c sz dz := by rw [rlE_sq (by rw [sqE_flaw h]; exact h), sqE_flaw h]
theorem rlE_rank (h : flawE c sz dz = 0) (hl : sz.length ≠ 2) : rlE c sz dz = 3 := by have e := sqE_rank h hl; rw [rlE_sq (by rw [e]; decide), e]
theorem rlE_len (h : flawE c sz dz = 0) (hl : sz.length = 2) (hn : nth sz 0 ≠ nth sz 1) : rlE c sz dz = 4 := by have e := sqE_len h hl hn; rw [rlE_sq (by rw [e]; decide), e]
theorem rlE_full (h : flawE c sz dz = 0) (hl : sz.length = 2) (hn : nth sz 0 = nth sz 1) (h6 : 24 < nth sz 0) : rlE c sz dz = 7 := by have e := sqE_full h hl hn h6; rw [rlE_sq (by rw [e]; decide), e]
theorem rlE_char (h : flawE c sz dz = 0) (hl : sz.length = 2) (hn : nth sz 0 = nth sz 1) (h6 : ¬ 24 < nth sz 0) (hc : c = true) : rlE c sz dz = 6 := by have e := sqE_char h hl hn h6 hc; rw [rlE_sq (by rw [e]; decide), e]
theorem rlE_ok (h : flawE c sz dz = 0) (hl : sz.length = 2) (hn : nth sz 0 = nth sz 1) (h6 : ¬ 24 < nth sz 0) (hc : c = false) (hm : mskB dz = true) : rlE c sz dz = 0 := by unfold rlE; rw [if_neg (by rw [sqE_ok h hl hn h6 hc]; decide), if_pos hm]
theorem rlE_msk (h : flawE c sz dz = 0) (hl : sz.length = 2) (hn : nth sz 0 = nth sz 1) (h6 : ¬ 24 < nth sz 0) (hc : c = false) (hm : mskB dz = false) : rlE c sz dz = 6 := by unfold rlE; rw [if_neg (by rw [sqE_ok h hl hn h6 hc]; decide), if_neg (by rw [hm]; decide)]
/-- A relation is how many things there are, and its cells. -/
theorem rl_is (h : rlE c sz dz = 0) : ∃ n : Nat, n ≤ 24 ∧ sz = [(n : Int), (n : Int)] ∧ dz.length = n * n ∧ c = false ∧ mskB dz = true := by
  by_cases h1 : sqE c sz dz = 0
  · obtain ⟨n, h2, h3, h4, h5⟩ := sq_is h1
    refine ⟨n, h2, h3, h4, h5, ?_⟩
    unfold rlE at h
    rw [if_neg (by omega)] at h
    by_cases hm : mskB dz = true
    · exact hm
    · rw [if_neg hm] at h; exact absurd h (by decide)
  · rw [rlE_sq h1] at h; exact absurd h h1
theorem rl_of (n : Nat) (hn : n ≤ 24) (dz : List Int) (hd : dz.length = n * n) (hm : mskB dz = true) : rlE false [(n : Int), (n : Int)] dz = 0 := by
  unfold rlE
  rw [if_neg (by rw [sq_of15 n hn dz hd]; decide), if_pos hm]
end
theorem tru_bad {m : List Int} {k : Nat} (hk : k < m.length) (h0 : nth m k ≠ 0) (h1 : nth m k ≠ 1) : mskB m = false := by
  unfold mskB
  rw [List.all_eq_false]
  exact ⟨nth m k, nth_mem m k hk, by simp [h0, h1]⟩
theorem tru_snoc {m : List Int} {k : Nat} (hk : k < m.length) (h : mskB (m.take k) = true) (hx : nth m k = 0 ∨ nth m k = 1) : mskB (m.take (k + 1)) = true := by
  unfold mskB at *
  rw [List.take_succ_eq_append_getElem hk, ← nth_get m k hk, List.all_append, h]
  simpa using hx
set_option maxRecDepth 100000 in
set_option maxHeartbeats 1000000 in
theorem truths_any (a : Option Addr) (cap : Nat) (zs : List Int) (hreach : zs.length ≤ 9223372036854775807) (n₀ : Nat) (w : World) (hI : IsInts n₀ w a zs) :
    Calls Try.prog 16 #[.slice a zs.length cap] w fun e w' => e = .returned (.bool (mskB zs)) ∧ w' = w := by
  go_enter Try.func16, Try.ntmps16
  go_wp2_with fail
  go_loop [7] (fun i => ∃ k : Nat, k ≤ zs.length ∧ i = .int .i64 k ∧ Hid (mskB (zs.take k) = true)) (fun i => zs.length - (intOf i).toNat)
  case atStart => exact ⟨0, Nat.zero_le _, rfl, rfl⟩
  case round =>
    obtain ⟨k, hk, rfl, HA⟩ := hrel
    by_cases hlt : k < zs.length
    · obtain ⟨b, off, rfl, hb, hcell⟩ := hI.at hlt
      have hc := hcell k hlt
      clear hcell
      by_cases h0 : nth zs k = 0
      · have hst : Hid (mskB (zs.take (k + 1)) = true) := tru_snoc hlt HA.out (.inl h0)
        have t0 : (nth zs k != 0) = false := by simp [h0]
        clear h0
        go_wp2_with fail
        exact ⟨⟨k + 1, by omega, by go_num, hst⟩, by simp [intOf]; omega⟩
      · have t0 : (nth zs k != 0) = true := by simp [h0]
        by_cases h1 : nth zs k = 1
        · have hst : Hid (mskB (zs.take (k + 1)) = true) := tru_snoc hlt HA.out (.inr h1)
          have t1 : (nth zs k != 1) = false := by simp [h1]
          clear h0 h1
          go_wp2_with fail
          exact ⟨⟨k + 1, by omega, by go_num, hst⟩, by simp [intOf]; omega⟩
        · have hfin : Hid (mskB zs = false) := tru_bad hlt h0 h1
          have t1 : (nth zs k != 1) = true := by simp [h1]
          clear h0 h1
          go_wp2_with fail
          go_ret
          exact ⟨ret_bool hfin.out.symm, rfl⟩
    · obtain rfl : k = zs.length := by omega
      have hfin : Hid (mskB zs = true) := by have := HA.out; rwa [List.take_length] at this
      go_wp2_with fail
      go_ret
      exact ⟨ret_bool hfin.out.symm, rfl⟩
theorem ints_drewN {n : Nat} {W : World} {a : Option Addr} {zs : List Int} (h : IsInts n W a zs) (k : Nat) : IsInts n (W.drewN k) a zs := h
set_option maxRecDepth 100000 in
set_option maxHeartbeats 2000000 in
theorem rcheck_any (c : Bool) (sa : Option Addr) (sc : Nat) (sz : List Int) (da : Option Addr) (dc : Nat) (dz : List Int) (w : World) (h1 : sz.length ≤ 9223372036854775807) (h2 : dz.length ≤ 9223372036854775807) (hs : IsInts w.heap.size w sa sz) (hd : IsInts w.heap.size w da dz) :
    Calls Try.prog 13 #[.agg #[.bool c, .slice sa sz.length sc, .slice da dz.length dc]] w fun e w' => e = .returned (errV (rlE c sz dz)) ∧ Below w.heap.size w w' := by
  have HB0 : Hid (Below w.heap.size w (w.alloc (.cells #[.bool c, .slice sa sz.length sc, .slice da dz.length dc] 24))) := (Below.refl _ w).alloc (Nat.le_refl _) _
  have pa := Abx.new w (.bool c) (.slice sa sz.length sc) (.slice da dz.length dc)
  have HA : Hid (Abx (w.alloc (.cells #[.bool c, .slice sa sz.length sc, .slice da dz.length dc] 24)) w.heap.size (.bool c) (.slice sa sz.length sc) (.slice da dz.length dc)) := pa
  have p0 := pa.c0
  have p1 := pa.c1
  have p2 := pa.c2
  have HI : Hid (IsInts w.heap.size w sa sz ∧ IsInts w.heap.size w da dz) := ⟨hs, hd⟩
  clear pa hs hd
  by_cases hF : flawE c sz dz = 0
  · have hC := check_ok c sa sc sz da dc dz h1 h2 (w.alloc (.cells #[.bool c, .slice sa sz.length sc, .slice da dz.length dc] 24)) ((HI.out.1.below HB0.out).mono HB0.out.size) ((HI.out.2.below HB0.out).mono HB0.out.size) hF
    have HF : Hid (flawE c sz dz = 0) := hF
    clear hF
    by_cases hl : sz.length = 2
    · obtain ⟨x, hx⟩ : ∃ x, nth sz 0 = x := ⟨_, rfl⟩
      obtain ⟨y, hy⟩ : ∃ y, nth sz 1 = y := ⟨_, rfl⟩
      have HL : Hid (sz.length = 2) := hl
      have HX : Hid (nth sz 0 = x) := hx
      have HY : Hid (nth sz 1 = y) := hy
      have l1 : (1 : Int) < (sz.length : Int) := by omega
      have l0 : (0 : Int) < (sz.length : Int) := by omega
      rw [hl] at hC p1 HA HB0 ⊢
      clear hl hx hy l1 l0
      by_cases hxy : x = y
      · have t1 : (x != y) = false := by rw [hxy]; simp
        have HXY : Hid (x = y) := hxy
        clear hxy
        by_cases h6 : 24 < x
        · have HE : Hid (rlE c sz dz = 7) := rlE_full HF.out HL.out (by rw [HX.out, HY.out]; exact HXY.out) (by rw [HX.out]; exact h6)
          go_enter Try.func13, Try.ntmps13
          go_wp2_with fail
          refine hC.mono ?_
          rintro e v1 ⟨rfl, hB⟩
          have HB1 : Hid (Below w.heap.size w v1) := HB0.out.trans (hB.mono HB0.out.size)
          have q := HA.out.go hB
          have q0 := q.c0
          have q1 := q.c1
          have q2 := q.c2
          obtain ⟨b, off, hab, hb, hc⟩ := (HI.out.1.below HB1.out).at (q := 0) (by rw [HL.out]; decide)
          subst hab
          have k0 := hc 0 (by rw [HL.out]; decide)
          have k1 := hc 1 (by rw [HL.out]; decide)
          rw [Nat.add_zero] at k0
          rw [HX.out] at k0
          rw [HY.out] at k1
          clear hc
          clear hC hB q p0 p1 p2 HA HB0
          go_wp2_with fail
          go_quiet (fail)
          go_wp2_with fail
          go_ret
          exact ⟨by rw [HE.out]; rfl, bel_drewN HB1.out _⟩
        · by_cases hcc : c = true
          · have HE : Hid (rlE c sz dz = 6) := rlE_char HF.out HL.out (by rw [HX.out, HY.out]; exact HXY.out) (by rw [HX.out]; exact h6) hcc
            subst hcc
            go_enter Try.func13, Try.ntmps13
            go_wp2_with fail
            refine hC.mono ?_
            rintro e v1 ⟨rfl, hB⟩
            have HB1 : Hid (Below w.heap.size w v1) := HB0.out.trans (hB.mono HB0.out.size)
            have q := HA.out.go hB
            have q0 := q.c0
            have q1 := q.c1
            have q2 := q.c2
            obtain ⟨b, off, hab, hb, hc⟩ := (HI.out.1.below HB1.out).at (q := 0) (by rw [HL.out]; decide)
            subst hab
            have k0 := hc 0 (by rw [HL.out]; decide)
            have k1 := hc 1 (by rw [HL.out]; decide)
            rw [Nat.add_zero] at k0
            rw [HX.out] at k0
            rw [HY.out] at k1
            clear hc
            clear hC hB q p0 p1 p2 HA HB0
            go_wp2_with fail
            go_quiet (fail)
            go_wp2_with fail
            go_ret
            exact ⟨by rw [HE.out]; rfl, bel_drewN HB1.out _⟩
          · obtain rfl : c = false := by simpa using hcc
            have H2 : Hid (dz.length ≤ 9223372036854775807) := h2
            by_cases hm : mskB dz = true
            · have HM : Hid (mskB dz = true) := hm
              have HE : Hid (rlE false sz dz = 0) := rlE_ok HF.out HL.out (by rw [HX.out, HY.out]; exact HXY.out) (by rw [HX.out]; exact h6) rfl hm
              go_enter Try.func13, Try.ntmps13
              go_wp2_with fail
              refine hC.mono ?_
              rintro e v1 ⟨rfl, hB⟩
              have HB1 : Hid (Below w.heap.size w v1) := HB0.out.trans (hB.mono HB0.out.size)
              have q := HA.out.go hB
              have q0 := q.c0
              have q1 := q.c1
              have q2 := q.c2
              obtain ⟨b, off, hab, hb, hc⟩ := (HI.out.1.below HB1.out).at (q := 0) (by rw [HL.out]; decide)
              subst hab
              have k0 := hc 0 (by rw [HL.out]; decide)
              have k1 := hc 1 (by rw [HL.out]; decide)
              rw [Nat.add_zero] at k0
              rw [HX.out] at k0
              rw [HY.out] at k1
              clear hc
              have HI1 : Hid (IsInts v1.heap.size v1 da dz) := (HI.out.2.below HB1.out).mono HB1.out.size
              clear hC hB q p0 p1 p2 HA HB0
              go_wp2_with fail
              go_quiet (fail)
              go_wp2_with (go_at_call 16; refine (truths_any da dc dz H2.out v1.heap.size _ (ints_drewN HI1.out _)).mono ?_; rintro e w9 ⟨rfl, hw9⟩; obtain rfl := hw9.symm; rw [HM.out])
              go_ret
              exact ⟨by rw [HE.out]; rfl, bel_drewN HB1.out _⟩
            · have hm : mskB dz = false := by simpa using hm
              have HM : Hid (mskB dz = false) := hm
              have HE : Hid (rlE false sz dz = 6) := rlE_msk HF.out HL.out (by rw [HX.out, HY.out]; exact HXY.out) (by rw [HX.out]; exact h6) rfl hm
              go_enter Try.func13, Try.ntmps13
              go_wp2_with fail
              refine hC.mono ?_
              rintro e v1 ⟨rfl, hB⟩
              have HB1 : Hid (Below w.heap.size w v1) := HB0.out.trans (hB.mono HB0.out.size)
              have q := HA.out.go hB
              have q0 := q.c0
              have q1 := q.c1
              have q2 := q.c2
              obtain ⟨b, off, hab, hb, hc⟩ := (HI.out.1.below HB1.out).at (q := 0) (by rw [HL.out]; decide)
              subst hab
              have k0 := hc 0 (by rw [HL.out]; decide)
              have k1 := hc 1 (by rw [HL.out]; decide)
              rw [Nat.add_zero] at k0
              rw [HX.out] at k0
              rw [HY.out] at k1
              clear hc
              have HI1 : Hid (IsInts v1.heap.size v1 da dz) := (HI.out.2.below HB1.out).mono HB1.out.size
              clear hC hB q p0 p1 p2 HA HB0
              go_wp2_with fail
              go_quiet (fail)
              go_wp2_with (go_at_call 16; refine (truths_any da dc dz H2.out v1.heap.size _ (ints_drewN HI1.out _)).mono ?_; rintro e w9 ⟨rfl, hw9⟩; obtain rfl := hw9.symm; rw [HM.out])
              go_ret
              exact ⟨by rw [HE.out]; rfl, bel_drewN HB1.out _⟩
      · have t1 : (x != y) = true := by simpa using hxy
        have HE : Hid (rlE c sz dz = 4) := rlE_len HF.out HL.out (by rw [HX.out, HY.out]; exact hxy)
        clear hxy
        go_enter Try.func13, Try.ntmps13
        go_wp2_with fail
        refine hC.mono ?_
        rintro e v1 ⟨rfl, hB⟩
        have HB1 : Hid (Below w.heap.size w v1) := HB0.out.trans (hB.mono HB0.out.size)
        have q := HA.out.go hB
        have q0 := q.c0
        have q1 := q.c1
        have q2 := q.c2
        obtain ⟨b, off, hab, hb, hc⟩ := (HI.out.1.below HB1.out).at (q := 0) (by rw [HL.out]; decide)
        subst hab
        have k0 := hc 0 (by rw [HL.out]; decide)
        have k1 := hc 1 (by rw [HL.out]; decide)
        rw [Nat.add_zero] at k0
        rw [HX.out] at k0
        rw [HY.out] at k1
        clear hc
        clear hC hB q p0 p1 p2 HA HB0
        go_wp2_with fail
        go_quiet (fail)
        go_wp2_with fail
        go_ret
        exact ⟨by rw [HE.out]; rfl, bel_drewN HB1.out _⟩
    · have t0 : ((sz.length : Int) != 2) = true := by simp; omega
      have HE : Hid (rlE c sz dz = 3) := rlE_rank HF.out hl
      clear hl
      go_enter Try.func13, Try.ntmps13
      go_wp2_with fail
      refine hC.mono ?_
      rintro e v1 ⟨rfl, hB⟩
      have HB1 : Hid (Below w.heap.size w v1) := HB0.out.trans (hB.mono HB0.out.size)
      have q := HA.out.go hB
      have q0 := q.c0
      have q1 := q.c1
      have q2 := q.c2
      clear hC hB q p0 p1 p2 HA HB0
      go_wp2_with fail
      go_ret
      exact ⟨by rw [HE.out]; rfl, HB1.out⟩
  · have hC := check_no c sa sc sz da dc dz h1 h2 (w.alloc (.cells #[.bool c, .slice sa sz.length sc, .slice da dz.length dc] 24)) ((HI.out.1.below HB0.out).mono HB0.out.size) ((HI.out.2.below HB0.out).mono HB0.out.size) hF
    have HE : Hid (rlE c sz dz = flawE c sz dz ∧ flawE c sz dz ≠ 0) := ⟨rlE_flaw hF, hF⟩
    clear hF
    go_enter Try.func13, Try.ntmps13
    go_wp2_with fail
    refine hC.mono ?_
    rintro e v1 ⟨rfl, hB⟩
    have HB1 : Hid (Below w.heap.size w v1) := HB0.out.trans (hB.mono HB0.out.size)
    have q := HA.out.go hB
    have q0 := q.c0
    have q1 := q.c1
    have q2 := q.c2
    clear hC hB q p0 p1 p2 HA HB0
    go_wp2_with fail
    go_ret
    exact ⟨ret_err (by rw [HE.out.1, errV_pos HE.out.2]; rfl), HB1.out⟩
end Go.Proofs.Ytgaelbgeoobgiab
