/-
  What the document's answer asks of cells: has an array one, is a test 1 or 0, are both arrays lists.
-/
import Derived.Test.YteieliajdfbipaaDoorSekm
import Derived.Test.YteieliajdfbipaaDoorBase
import Derived.Test.YteieliajdfbipaaDoorFlaws
namespace Go.Proofs.YteieliajdfbipaaDoor
open Go.RowKit
set_option linter.unusedVariables false

theorem ret_bool8 {b b' : Bool} (h : b' = b) : Ending.returned (.bool b) = .returned (.bool b') := by rw [h]
set_option maxRecDepth 100000 in
set_option maxHeartbeats 1000000 in
theorem hs_any (c : Bool) (sa : Option Addr) (sc : Nat) (sl : Nat) (da : Option Addr) (dc : Nat) (dz : List Int) (ch : Bool) (v : Int) (h2 : dz.length ≤ 9223372036854775807) (w : World) (hd : IsInts w.heap.size w da dz) :
    Calls Tryd.prog 28 #[.agg #[.bool c, .slice sa sl sc, .slice da dz.length dc], .bool ch, .int .i64 v] w fun e w' => e = .returned (.bool (hsB c dz ch v)) ∧ Below w.heap.size w w' := by
  have HB0 : Hid (Below w.heap.size w (w.alloc (.cells #[.bool c, .slice sa sl sc, .slice da dz.length dc] 24))) := (Below.refl _ w).alloc (Nat.le_refl _) _
  have pa := Abx.new w (.bool c) (.slice sa sl sc) (.slice da dz.length dc)
  obtain ⟨v0, hv0⟩ : ∃ v0, v0 = w.alloc (.cells #[.bool c, .slice sa sl sc, .slice da dz.length dc] 24) := ⟨_, rfl⟩
  have HV0 : Hid (v0 = w.alloc (.cells #[.bool c, .slice sa sl sc, .slice da dz.length dc] 24)) := hv0
  have HI : Hid (IsInts w.heap.size v0 da dz ∧ Below w.heap.size w v0) := by rw [hv0]; exact ⟨hd.below HB0.out, HB0.out⟩
  rw [← hv0] at pa
  clear hd hv0 HB0
  have p0 := pa.c0
  have p2 := pa.c2
  go_enter Tryd.func28, Tryd.ntmps28
  go_wp2_with fail
  rw [← HV0.out]
  go_loopw [7] (fun i wr => ∃ k : Nat, k ≤ dz.length ∧ i = .int .i64 k ∧ Hid (∀ j, j < k → ¬ (c = ch ∧ nth dz j = v)) ∧ wr = v0) (fun i _ => dz.length - (intOf i).toNat)
  case atStart => exact ⟨0, Nat.zero_le _, rfl, fun j hj => absurd hj (Nat.not_lt_zero j), rfl⟩
  case round =>
    obtain ⟨k, hk, rfl, HA, hv⟩ := hrel
    obtain rfl := hv.symm
    clear hv
    by_cases hlt : k < dz.length
    · obtain ⟨b, off, rfl, hb, hc⟩ := HI.out.1.at hlt
      have ck := hc k hlt
      clear hc
      by_cases hcc : c = ch
      · have t1 : (c == ch) = true := by simp [hcc]
        by_cases he : nth dz k = v
        · have t2 : (nth dz k == v) = true := by simp [he]
          have HN : Hid (hsB c dz ch v = true) := hsB_iff.2 ⟨hcc, by rw [← he]; exact nth_mem _ _ hlt⟩
          clear hcc he
          go_wp2_with fail
          go_ret
          exact ⟨ret_bool8 HN.out, HI.out.2⟩
        · have t2 : (nth dz k == v) = false := by simp [he]
          have HA2 : Hid (∀ j, j < k + 1 → ¬ (c = ch ∧ nth dz j = v)) := fun j hj => by
            by_cases e : j = k
            · subst e; exact fun q => he q.2
            · exact HA.out j (by omega)
          clear hcc he
          go_wp2_with fail
          exact ⟨⟨k + 1, by omega, by go_num, HA2, by first | rfl | trivial⟩, by simp [intOf]; omega⟩
      · have t1 : (c == ch) = false := by simp [hcc]
        have HA2 : Hid (∀ j, j < k + 1 → ¬ (c = ch ∧ nth dz j = v)) := fun j _ q => hcc q.1
        clear hcc
        go_wp2_with fail
        exact ⟨⟨k + 1, by omega, by go_num, HA2, by first | rfl | trivial⟩, by simp [intOf]; omega⟩
    · obtain rfl : k = dz.length := by omega
      have HN : Hid (hsB c dz ch v = false) := hsB_no.2 fun ⟨h1, h2⟩ => by
        obtain ⟨j, hj, e⟩ := mem_nth h2
        exact HA.out j hj ⟨h1, e⟩
      go_wp2_with fail
      go_ret
      exact ⟨ret_bool8 HN.out, HI.out.2⟩
theorem truth_any (b : Bool) (w : World) : Calls Tryd.prog 27 #[.bool b] w fun e w' => e = .returned (.int .i64 (if b = true then 1 else 0)) ∧ w' = w := by
  cases b
  · go_enter Tryd.func27, Tryd.ntmps27
    go_wp2_with fail
    go_ret
    exact ⟨rfl, rfl⟩
  · go_enter Tryd.func27, Tryd.ntmps27
    go_wp2_with fail
    go_ret
    exact ⟨rfl, rfl⟩
set_option maxRecDepth 100000 in
set_option maxHeartbeats 1000000 in
theorem lists_any (c c' : Bool) (sa : Option Addr) (sc : Nat) (sz : List Int) (da : Option Addr) (dc : Nat) (dz : List Int) (sa' : Option Addr) (sc' : Nat) (sz' : List Int) (da' : Option Addr) (dc' : Nat) (dz' : List Int)
    (h1 : sz.length ≤ 9223372036854775807) (h2 : dz.length ≤ 9223372036854775807) (h1' : sz'.length ≤ 9223372036854775807) (h2' : dz'.length ≤ 9223372036854775807) (w : World) (hs : IsInts w.heap.size w sa sz) (hd : IsInts w.heap.size w da dz) (hs' : IsInts w.heap.size w sa' sz') (hd' : IsInts w.heap.size w da' dz') :
    Calls Tryd.prog 36 #[.agg #[.bool c, .slice sa sz.length sc, .slice da dz.length dc], .agg #[.bool c', .slice sa' sz'.length sc', .slice da' dz'.length dc']] w fun e w' => e = .returned (.int .i64 (lsE c sz dz c' sz' dz')) ∧ Below w.heap.size w w' := by
  have HB0 : Hid (Below w.heap.size w ((w.alloc (.cells #[.bool c, .slice sa sz.length sc, .slice da dz.length dc] 24)).alloc (.cells #[.bool c', .slice sa' sz'.length sc', .slice da' dz'.length dc'] 24))) := ((Below.refl _ w).alloc (Nat.le_refl _) _).alloc (by simp) _
  have HP0 := (Abx.new w (.bool c) (.slice sa sz.length sc) (.slice da dz.length dc)).al (.cells #[.bool c', .slice sa' sz'.length sc', .slice da' dz'.length dc'] 24)
  have HQ0 := Abx.new1 w (.cells #[.bool c, .slice sa sz.length sc, .slice da dz.length dc] 24) (.bool c') (.slice sa' sz'.length sc') (.slice da' dz'.length dc')
  have p0 := HP0.c0
  have p1 := HP0.c1
  have p2 := HP0.c2
  have q0 := HQ0.c0
  have q1 := HQ0.c1
  have q2 := HQ0.c2
  have HI : Hid ((IsInts w.heap.size w sa sz ∧ IsInts w.heap.size w da dz) ∧ (IsInts w.heap.size w sa' sz' ∧ IsInts w.heap.size w da' dz')) := ⟨⟨hs, hd⟩, hs', hd'⟩
  clear hs hd hs' hd'
  go_enter Tryd.func36, Tryd.ntmps36
  go_wp2_with fail
  refine (flaws_any c c' sa sc sz da dc dz sa' sc' sz' da' dc' dz' h1 h2 h1' h2' _ ((HI.out.1.1.below HB0.out).mono HB0.out.size) ((HI.out.1.2.below HB0.out).mono HB0.out.size) ((HI.out.2.1.below HB0.out).mono HB0.out.size) ((HI.out.2.2.below HB0.out).mono HB0.out.size)).mono ?_
  rintro e v1 ⟨rfl, hC⟩
  have HB1 : Hid (Below w.heap.size w v1) := HB0.out.trans (hC.mono HB0.out.size)
  have a1 := (HP0.go hC).c1
  have b1 := (HQ0.go hC).c1
  clear hC HP0 HQ0 p0 p1 p2 q0 q1 q2 HB0
  by_cases he : flawsE c sz dz c' sz' dz' = 0
  · rw [he]
    by_cases hl : sz.length = 1
    · have tl : ((sz.length : Int) != 1) = false := by rw [hl]; rfl
      by_cases hl' : sz'.length = 1
      · have tl' : ((sz'.length : Int) != 1) = false := by rw [hl']; rfl
        have HE : Hid (lsE c sz dz c' sz' dz' = 0) := lsE_zero.2 ⟨(flawsE_zero.1 he).1, (flawsE_zero.1 he).2, hl, hl'⟩
        clear he hl hl'
        go_wp2_with fail
        go_ret
        exact ⟨by rw [HE.out]; rfl, HB1.out⟩
      · have tl' : ((sz'.length : Int) != 1) = true := by simp; omega
        have HE : Hid (lsE c sz dz c' sz' dz' = 3) := by show lsE _ _ _ _ _ _ = _; unfold lsE; rw [if_neg (not_not_intro he), if_pos (.inr hl')]
        clear he hl hl'
        go_wp2_with fail
        go_ret
        exact ⟨by rw [HE.out]; rfl, HB1.out⟩
    · have tl : ((sz.length : Int) != 1) = true := by simp; omega
      have HE : Hid (lsE c sz dz c' sz' dz' = 3) := by show lsE _ _ _ _ _ _ = _; unfold lsE; rw [if_neg (not_not_intro he), if_pos (.inl hl)]
      clear he hl
      go_wp2_with fail
      go_ret
      exact ⟨by rw [HE.out]; rfl, HB1.out⟩
  · have t0 : (flawsE c sz dz c' sz' dz' == 0) = false := by simpa using he
    have HE : Hid (lsE c sz dz c' sz' dz' = flawsE c sz dz c' sz' dz') := by show lsE _ _ _ _ _ _ = _; unfold lsE; rw [if_pos he]
    clear he
    go_wp2_with fail
    go_ret
    exact ⟨by rw [HE.out]; rfl, HB1.out⟩
end Go.Proofs.YteieliajdfbipaaDoor
