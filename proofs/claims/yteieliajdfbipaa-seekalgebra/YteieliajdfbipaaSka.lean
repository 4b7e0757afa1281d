/-
  What the program asks of each cell; what an array has that another one has not.
-/
import Derived.Test.YteieliajdfbipaaSkk
namespace Go.Proofs.Yteieliajdfbipaa
open Go.RowKit
set_option linter.unusedVariables false

/-- A box at q that leads to a finder whose map's box is at p. -/
abbrev FindV (p : Nat) : Value := .func (.func 30) #[] #[.pointer (some ⟨p, 0, none⟩)]
set_option maxRecDepth 100000 in
set_option maxHeartbeats 1000000 in
theorem index1_any (lo p q r : Nat) (c ch : Bool) (da : Option Addr) (dc : Nat) (dz : List Int) (x : Int) (T : In64 x) (w : World) (h : Finds lo w p c ch dz) (hq : w.cell? ⟨q, 0, none⟩ = some (FindV p)) (hr : w.cell? ⟨r, 2, none⟩ = some (.slice da dz.length dc)) :
    Calls Try.prog 19 #[.int .i64 x, .pointer (some ⟨q, 0, none⟩), .pointer (some ⟨r, 0, none⟩)] w (NoP (fdN c ch x dz) w) := by
  have HF : Hid (Finds lo w p c ch dz) := h
  have HT : Hid (In64 x) := T
  clear h T
  unfold FindV at hq
  cases hb : hsB c dz ch x
  · have HE : Hid ((fdN c ch x dz : Int) = dz.length) := by
      have h1 := fdN_le (c := c) (ch := ch) (v := x) dz
      have h2 : ¬ fdN c ch x dz < dz.length := fun q => by rw [fdN_lt, hb] at q; cases q
      show _ = _; omega
    have hp := find1_any lo p c ch dz x HT.out w HF.out
    rw [hb] at hp
    clear hb
    go_enter Try.func19, Try.ntmps19
    go_wp2_with fail
    refine hp.mono ?_
    clear hp
    rintro e w1 ⟨rfl, rfl⟩
    go_wp2_with fail
    go_ret
    exact ⟨by rw [HE.out]; rfl, Below.refl _ _⟩
  · have HE : Hid (fdV c ch x dz = (fdN c ch x dz : Int)) := by show _ = _; unfold fdV; rw [if_pos hb]
    have hp := find1_any lo p c ch dz x HT.out w HF.out
    rw [hb] at hp
    clear hb
    go_enter Try.func19, Try.ntmps19
    go_wp2_with fail
    refine hp.mono ?_
    clear hp
    rintro e w1 ⟨rfl, rfl⟩
    go_wp2_with fail
    go_ret
    exact ⟨by rw [← HE.out]; rfl, Below.refl _ _⟩
set_option maxRecDepth 100000 in
set_option maxHeartbeats 1000000 in
theorem in1_any (lo p q : Nat) (c ch : Bool) (dz : List Int) (x : Int) (T : In64 x) (w : World) (h : Finds lo w p c ch dz) (hq : w.cell? ⟨q, 0, none⟩ = some (FindV p)) :
    Calls Try.prog 21 #[.int .i64 x, .pointer (some ⟨q, 0, none⟩)] w (NoP (if hsB c dz ch x = true then 1 else 0) w) := by
  have HF : Hid (Finds lo w p c ch dz) := h
  have HT : Hid (In64 x) := T
  clear h T
  unfold FindV at hq
  cases hb : hsB c dz ch x
  · have hp := find1_any lo p c ch dz x HT.out w HF.out
    rw [hb] at hp
    clear hb
    go_enter Try.func21, Try.ntmps21
    go_wp2_with fail
    refine hp.mono ?_
    clear hp
    rintro e w1 ⟨rfl, rfl⟩
    go_wp2_with fail
    go_ret
    exact ⟨rfl, Below.refl _ _⟩
  · have hp := find1_any lo p c ch dz x HT.out w HF.out
    rw [hb] at hp
    clear hb
    go_enter Try.func21, Try.ntmps21
    go_wp2_with fail
    refine hp.mono ?_
    clear hp
    rintro e w1 ⟨rfl, rfl⟩
    go_wp2_with fail
    go_ret
    exact ⟨rfl, Below.refl _ _⟩
set_option maxRecDepth 100000 in
set_option maxHeartbeats 1000000 in
theorem nub1_any (lo p q : Nat) (c ch : Bool) (dz : List Int) (i : Nat) (x : Int) (T : In64 x) (w : World) (h : Finds lo w p c ch dz) (hq : w.cell? ⟨q, 0, none⟩ = some (FindV p)) :
    Calls Try.prog 25 #[.int .i64 (i : Nat), .int .i64 x, .pointer (some ⟨q, 0, none⟩)] w (SoP (fdV c ch x dz == (i : Int)) w) := by
  have HF : Hid (Finds lo w p c ch dz) := h
  have HT : Hid (In64 x) := T
  clear h T
  unfold FindV at hq
  go_enter Try.func25, Try.ntmps25
  go_wp2_with fail
  refine (find1_any lo p c ch dz x HT.out w HF.out).mono ?_
  rintro e w1 ⟨rfl, rfl⟩
  go_wp2_with fail
  go_ret
  exact ⟨rfl, Below.refl _ _⟩
set_option maxRecDepth 100000 in
set_option maxHeartbeats 1000000 in
theorem meet1_any (lo p q : Nat) (c ch : Bool) (dz : List Int) (y : Value) (x : Int) (T : In64 x) (w : World) (h : Finds lo w p c ch dz) (hq : w.cell? ⟨q, 0, none⟩ = some (FindV p)) :
    Calls Try.prog 28 #[y, .int .i64 x, .pointer (some ⟨q, 0, none⟩)] w (SoP (hsB c dz ch x) w) := by
  have HF : Hid (Finds lo w p c ch dz) := h
  have HT : Hid (In64 x) := T
  clear h T
  unfold FindV at hq
  go_enter Try.func28, Try.ntmps28
  go_wp2_with fail
  refine (find1_any lo p c ch dz x HT.out w HF.out).mono ?_
  rintro e w1 ⟨rfl, rfl⟩
  go_wp2_with fail
  go_ret
  exact ⟨rfl, Below.refl _ _⟩
set_option maxRecDepth 100000 in
set_option maxHeartbeats 1000000 in
theorem apart1_any (lo p q : Nat) (c ch : Bool) (dz : List Int) (y : Value) (x : Int) (T : In64 x) (w : World) (h : Finds lo w p c ch dz) (hq : w.cell? ⟨q, 0, none⟩ = some (FindV p)) :
    Calls Try.prog 31 #[y, .int .i64 x, .pointer (some ⟨q, 0, none⟩)] w (SoP (!hsB c dz ch x) w) := by
  have HF : Hid (Finds lo w p c ch dz) := h
  have HT : Hid (In64 x) := T
  clear h T
  unfold FindV at hq
  go_enter Try.func31, Try.ntmps31
  go_wp2_with fail
  refine (find1_any lo p c ch dz x HT.out w HF.out).mono ?_
  rintro e w1 ⟨rfl, rfl⟩
  go_wp2_with fail
  go_ret
  exact ⟨rfl, Below.refl _ _⟩
end Go.Proofs.Yteieliajdfbipaa
