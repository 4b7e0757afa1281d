/-
  The parts of each.Two: what fits, which function, which cell.
-/
import Derived.Test.YtcpmendkocnlhaaTell
import Derived.Test.YtcpmendkocnlhaaBase
import Derived.Test.YtcpmendkocnlhaaEqual
import Derived.Test.YtcpmendkocnlhaaTwos
import Derived.Test.YtcpmendkocnlhaaPair
namespace Go.Proofs.Ytcpmendkocnlhaa
open Go.RowKit
set_option linter.unusedVariables false

/-- Does an array have no axes? -/
def sgl (sz : List Int) : Bool := decide ((sz.length : Int) = 0)
theorem sgl_t {sz : List Int} (h : sz.length = 0) : sgl sz = true := by simp [sgl]; simpa using h
theorem sgl_f {sz : List Int} (h : sz.length ≠ 0) : sgl sz = false := by simp [sgl]; intro e; rw [e] at h; exact h rfl
set_option maxRecDepth 100000 in
set_option maxHeartbeats 1000000 in
theorem single_any (c : Bool) (sa : Option Addr) (sc : Nat) (sz : List Int) (D : Value) (w : World) :
    Calls Try.prog 56 #[.agg #[.bool c, .slice sa sz.length sc, D]] w fun e w' => e = .returned (.bool (sgl sz)) ∧ Below w.heap.size w w' := by
  have HB0 : Hid (Below w.heap.size w (w.alloc (.cells #[.bool c, .slice sa sz.length sc, D] 25))) := (Below.refl _ w).alloc (Nat.le_refl _) _
  go_enter Try.func56, Try.ntmps56
  go_wp2_with fail
  go_ret
  exact ⟨rfl, HB0.out⟩
/-- What is wrong with two shapes. -/
def fitE (sz sz' : List Int) : Int := if sz.length = 0 ∨ sz'.length = 0 then 0 else if sz.length ≠ sz'.length then 3 else if sz ≠ sz' then 4 else 0
set_option maxRecDepth 100000 in
set_option maxHeartbeats 2000000 in
theorem fit_any (c : Bool) (sa : Option Addr) (sc : Nat) (sz : List Int) (D : Value) (c' : Bool) (sa' : Option Addr) (sc' : Nat) (sz' : List Int) (D' : Value) (h1 : sz.length ≤ 9223372036854775807) (w : World) (hs : IsInts w.heap.size w sa sz) (hs' : IsInts w.heap.size w sa' sz') :
    Calls Try.prog 33 #[.agg #[.bool c, .slice sa sz.length sc, D], .agg #[.bool c', .slice sa' sz'.length sc', D']] w fun e w' => e = .returned (errV (fitE sz sz')) ∧ Below w.heap.size w w' := by
  have HI : Hid (IsInts w.heap.size w sa sz ∧ IsInts w.heap.size w sa' sz') := ⟨hs, hs'⟩
  obtain ⟨W0, hW0⟩ : ∃ W0, W0 = (w.alloc (.cells #[.bool c, .slice sa sz.length sc, D] 25)).alloc (.cells #[.bool c', .slice sa' sz'.length sc', D'] 25) := ⟨_, rfl⟩
  have HB0 : Hid (Below w.heap.size w W0) := by rw [hW0]; exact ((Below.refl _ w).alloc (Nat.le_refl _) _).alloc (by simp) _
  have P0 : Hid (Abx W0 w.heap.size (.bool c) (.slice sa sz.length sc) D) := by rw [hW0]; exact (Abx.new w _ _ _).al _
  have Q0 : Hid (Abx W0 (w.heap.size + 1) (.bool c') (.slice sa' sz'.length sc') D') := by rw [hW0]; exact Abx.new1 w _ _ _ _
  have HW : Hid (W0 = _) := hW0
  clear hs hs' hW0
  by_cases h0 : sz.length = 0
  · have HE : Hid (errV (fitE sz sz') = .nilIface) := by show _ = _; unfold fitE; rw [if_pos (.inl h0)]; rfl
    have S0 : Hid (sgl sz = true) := sgl_t h0
    clear h0
    go_enter Try.func33, Try.ntmps33
    go_wp2_with fail
    rw [← HW.out]
    refine (single_any c sa sc sz D W0).mono ?_
    rintro e w1 ⟨rfl, hb⟩
    rw [S0.out]
    have HB1 : Hid (Below w.heap.size w w1) := HB0.out.trans (hb.mono HB0.out.size)
    clear hb
    go_wp2_with fail
    go_ret
    exact ⟨ret_err HE.out, HB1.out⟩
  · have S0 : Hid (sgl sz = false) := sgl_f h0
    by_cases h0' : sz'.length = 0
    · have HE : Hid (errV (fitE sz sz') = .nilIface) := by show _ = _; unfold fitE; rw [if_pos (.inr h0')]; rfl
      have S0' : Hid (sgl sz' = true) := sgl_t h0'
      clear h0 h0'
      go_enter Try.func33, Try.ntmps33
      go_wp2_with fail
      rw [← HW.out]
      refine (single_any c sa sc sz D W0).mono ?_
      rintro e w1 ⟨rfl, hb⟩
      rw [S0.out]
      have HB1 : Hid (Below w.heap.size w w1) := HB0.out.trans (hb.mono HB0.out.size)
      have Q1 : Hid (Abx w1 (w.heap.size + 1) (.bool c') (.slice sa' sz'.length sc') D') := Q0.out.go hb
      have q0 := Q1.out.c0
      have q1 := Q1.out.c1
      have q2 := Q1.out.c2
      clear hb
      go_wp2_with fail
      refine (single_any c' sa' sc' sz' D' w1).mono ?_
      rintro e w2 ⟨rfl, hb⟩
      rw [S0'.out]
      have HB2 : Hid (Below w.heap.size w w2) := HB1.out.trans (hb.mono HB1.out.size)
      clear hb
      go_wp2_with fail
      go_ret
      exact ⟨ret_err HE.out, HB2.out⟩
    · have S0' : Hid (sgl sz' = false) := sgl_f h0'
      have HN : Hid (¬ (sz.length = 0 ∨ sz'.length = 0)) := by rintro (h | h); exact h0 h; exact h0' h
      clear h0 h0'
      by_cases hl : sz.length = sz'.length
      · have tl : ((sz.length : Int) != (sz'.length : Int)) = false := by simp [hl]
        have HL : Hid (sz.length = sz'.length) := hl
        clear hl
        go_enter Try.func33, Try.ntmps33
        go_wp2_with fail
        rw [← HW.out]
        refine (single_any c sa sc sz D W0).mono ?_
        rintro e w1 ⟨rfl, hb⟩
        rw [S0.out]
        have HB1 : Hid (Below w.heap.size w w1) := HB0.out.trans (hb.mono HB0.out.size)
        have P1 : Hid (Abx w1 w.heap.size (.bool c) (.slice sa sz.length sc) D) := P0.out.go hb
        have Q1 : Hid (Abx w1 (w.heap.size + 1) (.bool c') (.slice sa' sz'.length sc') D') := Q0.out.go hb
        have q0 := Q1.out.c0
        have q1 := Q1.out.c1
        have q2 := Q1.out.c2
        clear hb
        go_wp2_with fail
        refine (single_any c' sa' sc' sz' D' w1).mono ?_
        rintro e w2 ⟨rfl, hb⟩
        rw [S0'.out]
        have HB2 : Hid (Below w.heap.size w w2) := HB1.out.trans (hb.mono HB1.out.size)
        have P2 := P1.out.go hb
        have Q2 := Q1.out.go hb
        clear q0 q1 q2 hb
        have p1 := P2.c1
        have q1 := Q2.c1
        clear P2 Q2
        go_wp2_with fail
        refine (equal_any sa sc sz sa' sc' sz' h1 w.heap.size w2 (HI.out.1.below HB2.out) (HI.out.2.below HB2.out)).mono ?_
        rintro e w3 ⟨rfl, m, rfl⟩
        by_cases he : sz = sz'
        · have HE : Hid (errV (fitE sz sz') = .nilIface ∧ eqB sz sz' = true) := ⟨by unfold fitE; rw [if_neg HN.out, if_neg (by simpa using HL.out), if_neg (by simpa using he)]; rfl, eqB_true he⟩
          clear he
          rw [HE.out.2]
          go_wp2_with fail
          go_ret
          exact ⟨ret_err HE.out.1, bel_drewN HB2.out _⟩
        · have HE : Hid (errV (fitE sz sz') = .iface 67 (.int .i64 4) ∧ eqB sz sz' = false) := ⟨by unfold fitE; rw [if_neg HN.out, if_neg (by simpa using HL.out), if_pos he]; rfl, eqB_false he⟩
          clear he
          rw [HE.out.2]
          go_wp2_with fail
          go_ret
          exact ⟨ret_err HE.out.1, bel_drewN HB2.out _⟩
      · have tl : ((sz.length : Int) != (sz'.length : Int)) = true := by simp; omega
        have HE : Hid (errV (fitE sz sz') = .iface 67 (.int .i64 3)) := by show _ = _; unfold fitE; rw [if_neg HN.out, if_pos hl]; rfl
        clear hl
        go_enter Try.func33, Try.ntmps33
        go_wp2_with fail
        rw [← HW.out]
        refine (single_any c sa sc sz D W0).mono ?_
        rintro e w1 ⟨rfl, hb⟩
        rw [S0.out]
        have HB1 : Hid (Below w.heap.size w w1) := HB0.out.trans (hb.mono HB0.out.size)
        have P1 : Hid (Abx w1 w.heap.size (.bool c) (.slice sa sz.length sc) D) := P0.out.go hb
        have Q1 : Hid (Abx w1 (w.heap.size + 1) (.bool c') (.slice sa' sz'.length sc') D') := Q0.out.go hb
        have q0 := Q1.out.c0
        have q1 := Q1.out.c1
        have q2 := Q1.out.c2
        clear hb
        go_wp2_with fail
        refine (single_any c' sa' sc' sz' D' w1).mono ?_
        rintro e w2 ⟨rfl, hb⟩
        rw [S0'.out]
        have HB2 : Hid (Below w.heap.size w w2) := HB1.out.trans (hb.mono HB1.out.size)
        have P2 := P1.out.go hb
        have Q2 := Q1.out.go hb
        clear q0 q1 q2 hb
        have p1 := P2.c1
        have q1 := Q2.c1
        clear P2 Q2
        go_wp2_with fail
        go_ret
        exact ⟨ret_err HE.out, HB2.out⟩
set_option maxRecDepth 100000 in
set_option maxHeartbeats 1000000 in
theorem wider_any (c : Bool) (sa : Option Addr) (sc : Nat) (sz : List Int) (da : Option Addr) (dl dc : Nat) (c' : Bool) (sa' : Option Addr) (sc' : Nat) (sz' : List Int) (da' : Option Addr) (dl' dc' : Nat) (w : World) :
    Calls Try.prog 36 #[.agg #[.bool c, .slice sa sz.length sc, .slice da dl dc], .agg #[.bool c', .slice sa' sz'.length sc', .slice da' dl' dc']] w fun e w' => e = .returned (if sz.length = 0 then .agg #[.bool c', .slice sa' sz'.length sc', .slice da' dl' dc'] else .agg #[.bool c, .slice sa sz.length sc, .slice da dl dc]) ∧ Below w.heap.size w w' := by
  obtain ⟨W0, hW0⟩ : ∃ W0, W0 = ((w.alloc (.cells #[.bool c, .slice sa sz.length sc, .slice da dl dc] 25)).alloc (.cells #[.bool c', .slice sa' sz'.length sc', .slice da' dl' dc'] 25)).alloc (.cells #[.bool false, .slice none 0 0, .slice none 0 0] 25) := ⟨_, rfl⟩
  have HB0 : Hid (Below w.heap.size w W0) := by rw [hW0]; exact (((Below.refl _ w).alloc (Nat.le_refl _) _).alloc (by simp) _).alloc (by simp; omega) _
  have P0 : Hid (Abx W0 w.heap.size (.bool c) (.slice sa sz.length sc) (.slice da dl dc)) := by rw [hW0]; exact ((Abx.new w _ _ _).al _).al _
  have Q0 : Hid (Abx W0 (w.heap.size + 1) (.bool c') (.slice sa' sz'.length sc') (.slice da' dl' dc')) := by rw [hW0]; exact (Abx.new1 w _ _ _ _).al _
  have R0 : Hid (Abx W0 (w.heap.size + 1 + 1) (.bool false) (.slice none 0 0) (.slice none 0 0)) := by
    rw [hW0]
    have := Abx.new1 (w.alloc (.cells #[.bool c, .slice sa sz.length sc, .slice da dl dc] 25)) (.cells #[.bool c', .slice sa' sz'.length sc', .slice da' dl' dc'] 25) (.bool false) (.slice none 0 0) (.slice none 0 0)
    rwa [World.size_alloc] at this
  have HW : Hid (W0 = _) := hW0
  clear hW0
  by_cases h0 : sz.length = 0
  · have S0 : Hid (sgl sz = true) := sgl_t h0
    rw [if_pos h0]
    clear h0
    go_enter Try.func36, Try.ntmps36
    go_wp2_with fail
    rw [← HW.out]
    refine (single_any c sa sc sz (.slice da dl dc) W0).mono ?_
    rintro e w1 ⟨rfl, hb⟩
    rw [S0.out]
    have HB1 : Hid (Below w.heap.size w w1) := HB0.out.trans (hb.mono HB0.out.size)
    have Q1 : Hid (Abx w1 (w.heap.size + 1) (.bool c') (.slice sa' sz'.length sc') (.slice da' dl' dc')) := Q0.out.go hb
    have R1 : Hid (Abx w1 (w.heap.size + 1 + 1) (.bool false) (.slice none 0 0) (.slice none 0 0)) := R0.out.go hb
    clear hb
    have p0 := Q1.out.c0
    have p1 := Q1.out.c1
    have p2 := Q1.out.c2
    have r0 := R1.out.c0
    have r1 := R1.out.c1
    have r2 := R1.out.c2
    have f0 := R1.out.fr 0
    have f1 := R1.out.fr 1
    have f2 := R1.out.fr 2
    go_wp2_with fail
    have F := R1.out.set3 (.bool c') (.slice sa' sz'.length sc') (.slice da' dl' dc')
    have q0 := F.c0
    have q1 := F.c1
    have q2 := F.c2
    exact bodyPost_ret (v := .agg #[.bool c', .slice sa' sz'.length sc', .slice da' dl' dc']) (by simp [results, Try.results36, go_sem, q0, q1, q2]) rfl ⟨rfl, bel_set3 HB1.out (by omega) _ _ _⟩
  · have S0 : Hid (sgl sz = false) := sgl_f h0
    rw [if_neg h0]
    clear h0
    go_enter Try.func36, Try.ntmps36
    go_wp2_with fail
    rw [← HW.out]
    refine (single_any c sa sc sz (.slice da dl dc) W0).mono ?_
    rintro e w1 ⟨rfl, hb⟩
    rw [S0.out]
    have HB1 : Hid (Below w.heap.size w w1) := HB0.out.trans (hb.mono HB0.out.size)
    have P1 : Hid (Abx w1 w.heap.size (.bool c) (.slice sa sz.length sc) (.slice da dl dc)) := P0.out.go hb
    have R1 : Hid (Abx w1 (w.heap.size + 1 + 1) (.bool false) (.slice none 0 0) (.slice none 0 0)) := R0.out.go hb
    clear hb
    have p0 := P1.out.c0
    have p1 := P1.out.c1
    have p2 := P1.out.c2
    have r0 := R1.out.c0
    have r1 := R1.out.c1
    have r2 := R1.out.c2
    have f0 := R1.out.fr 0
    have f1 := R1.out.fr 1
    have f2 := R1.out.fr 2
    go_wp2_with fail
    have F := R1.out.set3 (.bool c) (.slice sa sz.length sc) (.slice da dl dc)
    have q0 := F.c0
    have q1 := F.c1
    have q2 := F.c2
    exact bodyPost_ret (v := .agg #[.bool c, .slice sa sz.length sc, .slice da dl dc]) (by simp [results, Try.results36, go_sem, q0, q1, q2]) rfl ⟨rfl, bel_set3 HB1.out (by omega) _ _ _⟩
end Go.Proofs.Ytcpmendkocnlhaa
