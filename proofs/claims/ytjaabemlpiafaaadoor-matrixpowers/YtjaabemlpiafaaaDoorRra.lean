/-
  The reference's powers of matrices.
-/
import Derived.Test.YtjaabemlpiafaaaDoorRmt
namespace Go.Proofs.YtjaabemlpiafaaaDoor
open Go.RowKit
set_option linter.unusedVariables false

set_option maxRecDepth 100000 in
set_option maxHeartbeats 1000000 in
theorem raised_ref (n : Nat) (hn : n ≤ 6) (N : Nat) (hN : N = n * n) (da : Option Addr) (dc : Nat) (dz : List Int) (hl : dz.length = N) (T : ∀ j, In64 (nth dz j)) : ∀ (k : Nat), k ≤ 9223372036854775807 → ∀ (w : World), IsInts w.heap.size w da dz →
    Calls Tryd.prog 18 #[.int .i64 (n : Nat), .slice da N dc, .int .i64 (k : Nat)] w (LnC (cls n (pwg n (rdg n dz) k)) N w) := by
  intro k
  induction k using Nat.strongRecOn with
  | _ k ih =>
    intro hk w hd
    have HD : Hid (IsInts w.heap.size w da dz) := hd
    clear hd
    by_cases h0 : k = 0
    · subst h0
      have hU := unit_ref n hn N hN w
      rw [uno_all n (rdg n dz)] at hU
      clear ih hN hl
      go_enter Tryd.func18, Tryd.ntmps18
      go_wp2_with fail
      refine hU.mono ?_
      rintro e w1 ⟨g, c, rfl, hX, hB⟩
      clear hU
      go_wp2_with fail
      go_ret
      exact ⟨g, c, rfl, hX, hB⟩
    · obtain ⟨h, hh⟩ : ∃ h, h = k / 2 := ⟨_, rfl⟩
      have hq : (k : Int).tdiv 2 = (h : Int) := by rw [hh]; rfl
      have hq2 : (k : Int) / 2 = (h : Int) := by omega
      have hq3 : k / 2 = h := hh.symm
      have t0 : ((k : Int) == 0) = false := by simp; omega
      have hR := ih h (by omega) (by omega) w HD.out
      obtain ⟨P1, hP1⟩ : ∃ P, P = cls n (pwg n (rdg n dz) h) := ⟨_, rfl⟩
      obtain ⟨P2, hP2⟩ : ∃ P, P = mmL n P1 P1 := ⟨_, rfl⟩
      have HP : Hid (P1.length = N ∧ P2.length = N) := ⟨by rw [hP1, cls_len, hN], by rw [hP2, mmL_len, hN]⟩
      have HT : Hid (∀ (g : Option Addr) (c : Nat) (v : World), NewC w.heap.size v g P1 c → Below w.heap.size w v → Calls Tryd.prog 35 #[.int .i64 (n : Nat), .slice g N c, .slice g N c] v (LnC P2 N v)) := fun g c v hX hB => by
        rw [hP2]
        exact times_ref n hn N hN g c P1 g c P1 HP.out.1 HP.out.1 v hX.1.ints hX.1.ints
      have HT2 : Hid (∀ (g : Option Addr) (c : Nat) (lo : Nat) (v : World), NewC lo v g P2 c → Below w.heap.size w v → Calls Tryd.prog 35 #[.int .i64 (n : Nat), .slice g N c, .slice da N dc] v (LnC (mmL n P2 dz) N v)) := fun g c lo v hX hB =>
        times_ref n hn N hN g c P2 da dc dz HP.out.2 hl v hX.1.ints ((HD.out.below hB).mono hB.size)
      have HV2 : Hid (P2 = cls n (pwg n (rdg n dz) (h + h))) := by show _ = _; rw [hP2, hP1, pow_mul]
      have HV3 : Hid (mmL n P2 dz = cls n (pwg n (rdg n dz) (h + h + 1))) := by
        show _ = _
        rw [HV2.out, ← pow_mul n (rdg n dz) (h + h) 1, pow_one (by rw [hl, hN]) T]
      rw [← hP1] at hR
      clear hP1 hP2 ih hh hN hl
      by_cases hod : k % 2 = 1
      · have hr : (k : Int).tmod 2 = 1 := by have : ((k % 2 : Nat) : Int) = 1 := by rw [hod]; rfl
                                             exact this
        have hr2 : (k : Int) % 2 = 1 := by omega
        have HE : Hid (k = h + h + 1) := by show _ = _; omega
        go_enter Tryd.func18, Tryd.ntmps18
        go_wp2_with fail
        refine hR.mono ?_
        rintro e w1 ⟨g, c, rfl, hX, hB⟩
        have hT := HT.out g c w1 hX hB
        have HB1 : Hid (Below w.heap.size w w1) := hB
        clear hR hX hB HT
        go_wp2_with fail
        refine hT.mono ?_
        rintro e w2 ⟨g2, c2, rfl, hX, hB⟩
        have HB2 : Hid (Below w.heap.size w w2) := HB1.out.trans (hB.mono HB1.out.size)
        have hT2 := HT2.out g2 c2 _ w2 hX HB2.out
        rw [HV3.out, ← HE.out] at hT2
        clear hT hX hB HT2 HB1
        go_wp2_with fail
        refine hT2.mono ?_
        rintro e w3 ⟨g3, c3, rfl, hX, hB⟩
        have HB3 : Hid (Below w.heap.size w w3) := HB2.out.trans (hB.mono HB2.out.size)
        have HX3 : Hid (NewC w.heap.size w3 g3 (cls n (pwg n (rdg n dz) k)) c3) := hX.lowc HB2.out.size
        clear hT2 hX hB HB2
        go_wp2_with fail
        go_ret
        exact ⟨g3, c3, rfl, HX3.out, HB3.out⟩
      · have hev : k % 2 = 0 := by omega
        have hr : (k : Int).tmod 2 = 0 := by have : ((k % 2 : Nat) : Int) = 0 := by rw [hev]; rfl
                                             exact this
        have hr2 : (k : Int) % 2 = 0 := by omega
        have HE : Hid (k = h + h) := by show _ = _; omega
        clear hod hev
        go_enter Tryd.func18, Tryd.ntmps18
        go_wp2_with fail
        refine hR.mono ?_
        rintro e w1 ⟨g, c, rfl, hX, hB⟩
        have hT := HT.out g c w1 hX hB
        have HB1 : Hid (Below w.heap.size w w1) := hB
        clear hR hX hB HT
        go_wp2_with fail
        refine hT.mono ?_
        rintro e w2 ⟨g2, c2, rfl, hX, hB⟩
        have HB2 : Hid (Below w.heap.size w w2) := HB1.out.trans (hB.mono HB1.out.size)
        have HX2 : Hid (NewC w.heap.size w2 g2 (cls n (pwg n (rdg n dz) k)) c2) := by rw [HE.out, ← HV2.out]; exact hX.lowc HB1.out.size
        clear hT hX hB HB1
        go_wp2_with fail
        go_ret
        exact ⟨g2, c2, rfl, HX2.out, HB2.out⟩
end Go.Proofs.YtjaabemlpiafaaaDoor
