/-
  What the program asks of each cell; what an array has that another one has not.
-/
import Derived.Test.YteieliajdfbipabSkk
namespace Go.Proofs.Yteieliajdfbipab
open Go.RowKit
set_option linter.unusedVariables false

/-- A box at q that leads to a finder whose map's box is at p. -/
abbrev FindV (p : Nat) : Value := .func (.func 30) #[] #[.pointer (some ⟨p, 0, none⟩)]
set_option maxRecDepth 100000 in
set_option maxHeartbeats 1000000 in
theorem in1_any (lo p q : Nat) (c ch : Bool) (dz : List Int) (x : Int) (T : In64 x) (w : World) (h : Finds lo w p c ch dz) (hq : w.cell? ⟨q, 0, none⟩ = some (FindV p)) :
    Calls Try.prog 15 #[.int .i64 x, .pointer (some ⟨q, 0, none⟩)] w (NoP (if hsB c dz ch x = true then 1 else 0) w) := by
  have HF : Hid (Finds lo w p c ch dz) := h
  have HT : Hid (In64 x) := T
  clear h T
  unfold FindV at hq
  cases hb : hsB c dz ch x
  · have hp := find1_any lo p c ch dz x HT.out w HF.out
    rw [hb] at hp
    clear hb
    go_enter Try.func15, Try.ntmps15
    go_wp2_with fail
    refine hp.mono ?_
    clear hp
    rintro e w1 ⟨rfl, rfl⟩
    go_wp2_with fail
    go_ret
    exact ⟨rfl, Below.refl _ _⟩
  · have hp := find1_any lo p c ch dz x HT.out w HF.out
    rw [hb] at hp
    clear hb
    go_enter Try.func15, Try.ntmps15
    go_wp2_with fail
    refine hp.mono ?_
    clear hp
    rintro e w1 ⟨rfl, rfl⟩
    go_wp2_with fail
    go_ret
    exact ⟨rfl, Below.refl _ _⟩
set_option maxRecDepth 100000 in
set_option maxHeartbeats 1000000 in
theorem meet1_any (lo p q : Nat) (c ch : Bool) (dz : List Int) (y : Value) (x : Int) (T : In64 x) (w : World) (h : Finds lo w p c ch dz) (hq : w.cell? ⟨q, 0, none⟩ = some (FindV p)) :
    Calls Try.prog 20 #[y, .int .i64 x, .pointer (some ⟨q, 0, none⟩)] w (SoP (hsB c dz ch x) w) := by
  have HF : Hid (Finds lo w p c ch dz) := h
  have HT : Hid (In64 x) := T
  clear h T
  unfold FindV at hq
  go_enter Try.func20, Try.ntmps20
  go_wp2_with fail
  refine (find1_any lo p c ch dz x HT.out w HF.out).mono ?_
  rintro e w1 ⟨rfl, rfl⟩
  go_wp2_with fail
  go_ret
  exact ⟨rfl, Below.refl _ _⟩
set_option maxRecDepth 100000 in
set_option maxHeartbeats 1000000 in
theorem apart1_any (lo p q : Nat) (c ch : Bool) (dz : List Int) (y : Value) (x : Int) (T : In64 x) (w : World) (h : Finds lo w p c ch dz) (hq : w.cell? ⟨q, 0, none⟩ = some (FindV p)) :
    Calls Try.prog 32 #[y, .int .i64 x, .pointer (some ⟨q, 0, none⟩)] w (SoP (!hsB c dz ch x) w) := by
  have HF : Hid (Finds lo w p c ch dz) := h
  have HT : Hid (In64 x) := T
  clear h T
  unfold FindV at hq
  go_enter Try.func32, Try.ntmps32
  go_wp2_with fail
  refine (find1_any lo p c ch dz x HT.out w HF.out).mono ?_
  rintro e w1 ⟨rfl, rfl⟩
  go_wp2_with fail
  go_ret
  exact ⟨rfl, Below.refl _ _⟩
end Go.Proofs.Yteieliajdfbipab
