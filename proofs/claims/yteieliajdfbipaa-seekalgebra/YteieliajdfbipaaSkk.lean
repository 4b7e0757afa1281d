/-
  What the program keeps of an array's cells, and what it tells of each: over whatever is asked of each cell.
-/
import Derived.Test.YteieliajdfbipaaSkf
import Derived.Test.YteieliajdfbipaaApps
import Derived.Test.YteieliajdfbipaaPapp
import Derived.Test.YteieliajdfbipaaCapi
namespace Go.Proofs.Yteieliajdfbipaa
open Go.RowKit
set_option linter.unusedVariables false

/-- What is kept so far. -/
def kpQ (Q : Nat → Bool) (dz : List Int) : Nat → List Int
  | 0 => []
  | k + 1 => if Q k = true then kpQ Q dz k ++ [nth dz k] else kpQ Q dz k
theorem kpQ_len (Q : Nat → Bool) (dz : List Int) : ∀ k, (kpQ Q dz k).length ≤ k
  | 0 => Nat.le_refl _
  | k + 1 => by
    have := kpQ_len Q dz k
    simp only [kpQ]
    split
    · rw [List.length_append]; simp; omega
    · omega
/-- An answer that is a truth. -/
def SoP (b : Bool) (w : World) (e : Ending) (w' : World) : Prop := e = .returned (.bool b) ∧ Below w.heap.size w w'
/-- An answer that is a number. -/
def NoP (x : Int) (w : World) (e : Ending) (w' : World) : Prop := e = .returned (.int .i64 x) ∧ Below w.heap.size w w'
def KeptP (L : List Int) (w : World) (e : Ending) (w' : World) : Prop := ∃ g gc, e = .returned (.slice g L.length gc) ∧ NewC w.heap.size w' g L gc ∧ Below w.heap.size w w'
set_option maxRecDepth 100000 in
set_option maxHeartbeats 2000000 in
theorem kept_any (c : Bool) (S : Value) (da : Option Addr) (dc : Nat) (dz : List Int) (f : Nat) (cs : List Value) (hE : ∀ args w, (callFunc f args).run Try.prog w = .ok (.enter f args) w) (Q : Nat → Bool) (h2 : dz.length ≤ 4096) (w : World) (hd : IsInts w.heap.size w da dz)
    (H : ∀ i, i < dz.length → ∀ w', Below w.heap.size w w' → Calls Try.prog f (.int .i64 (i : Nat) :: .int .i64 (nth dz i) :: cs).toArray w' (SoP (Q i) w')) :
    Calls Try.prog 24 #[.agg #[.bool c, S, .slice da dz.length dc], .func (.func f) #[] cs.toArray] w (KeptP (kpQ Q dz dz.length) w) := by
  have HD : Hid (IsInts w.heap.size w da dz) := hd
  have HH : Hid (∀ i, i < dz.length → ∀ w', Below w.heap.size w w' → Calls Try.prog f (.int .i64 (i : Nat) :: .int .i64 (nth dz i) :: cs).toArray w' (SoP (Q i) w')) := H
  clear hd H
  go_enter Try.func24, Try.ntmps24
  go_wp2_with fail
  go_loopw [5, 11] (fun v i wr => ∃ k : Nat, k ≤ dz.length ∧ i = .int .i64 k ∧ wr.ownsRow w.heap.size 3 1 v (kpQ Q dz k).length ((kpQ Q dz k).map (Value.int .i64)) ∧ Below w.heap.size w wr) (fun _ i _ => dz.length - (intOf i).toNat)
  case atStart => exact ⟨0, Nat.zero_le _, rfl, World.ownsRow_nil _ _ _ _, (Below.refl _ w).alloc (Nat.le_refl _) _⟩
  case round =>
    obtain ⟨k, hk, rfl, hown, hB⟩ := hrel
    by_cases hlt : k < dz.length
    · obtain ⟨b, off, rfl, hb, hc⟩ := (HD.out.below hB).at hlt
      have ck := hc k hlt
      have HB : Hid (Below w.heap.size w wr) := hB
      have HW : Hid (wr.ownsRow w.heap.size 3 1 u5 (kpQ Q dz k).length ((kpQ Q dz k).map (Value.int .i64))) := hown
      have hkl := kpQ_len Q dz k
      have HL : Hid ((kpQ Q dz k).length ≤ 4096) := by show _ ≤ _; omega
      clear hc hB hown hkl
      obtain ⟨x, hx⟩ : ∃ x, x = nth dz k := ⟨_, rfl⟩
      have HX : Hid (x = nth dz k) := hx
      rw [← hx] at ck
      clear hx
      have HC : Hid (Calls Try.prog f (.int .i64 (k : Nat) :: .int .i64 x :: cs).toArray wr (SoP (Q k) wr)) := by rw [HX.out]; exact HH.out k hlt wr HB.out
      have HS : Hid (kpQ Q dz (k + 1) = if Q k = true then kpQ Q dz k ++ [x] else kpQ Q dz k) := by show _ = _; rw [HX.out]; rfl
      cases hq : Q k
      · rw [hq] at HS HC
        clear hq
        go_wp2_with fail
        refine HC.out.mono ?_
        rintro e w1 ⟨rfl, hb1⟩
        have HB1 : Hid (Below wr.heap.size wr w1) := hb1
        clear hb1
        go_wp2_with fail
        refine ⟨⟨k + 1, by omega, by go_num, ?_, HB.out.trans (HB1.out.mono HB.out.size)⟩, by simp [intOf]; omega⟩
        rw [HS.out, if_neg (by decide)]
        exact own_go HW.out HB1.out
      · rw [hq] at HS HC
        clear hq
        go_wp2_with fail
        refine HC.out.mono ?_
        rintro e w1 ⟨rfl, hb1⟩
        have HB1 : Hid (Below wr.heap.size wr w1) := hb1
        have HW1 : Hid (w1.ownsRow w.heap.size 3 1 u5 (kpQ Q dz k).length ((kpQ Q dz k).map (Value.int .i64))) := own_go HW.out hb1
        have hz : w.heap.size ≤ w1.heap.size := Nat.le_trans HB.out.size hb1.size
        clear hb1
        generalize kpQ Q dz k = L at *
        go_wp2_with (at_builtin; refine app_list rfl _ _ rfl _ w.heap.size w1.heap.size u5 L x rfl rfl (HW1.out.alloc _) (heap_alloc_new w1 _) (by have := HL.out; omega) (by simp; omega) ?_; intro g1 gc1 w3 hown1 hB3)
        refine ⟨⟨k + 1, by omega, by go_num, ?_, (HB.out.trans (HB1.out.mono HB.out.size)).trans (((Below.refl _ w1).alloc hz _).trans hB3)⟩, by simp [intOf]; omega⟩
        rw [HS.out, if_pos trivial, List.length_append]
        exact hown1
    · obtain rfl : k = dz.length := by omega
      obtain ⟨g, gc, rfl, hN⟩ := own_cap hown
      clear hown
      go_wp2_with fail
      go_ret
      exact ⟨g, gc, rfl, hN, hB⟩
end Go.Proofs.Yteieliajdfbipaa
