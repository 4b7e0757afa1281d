/-
  The document's answer on places: is there such a cell, where it is, and the indices of a place, counted up to it.
-/
import Derived.Deep.QuietTactic
import Derived.BigQuiet
import Derived.Test.YtcpmendkocnlhaaDoorTurnq
import Derived.Test.YtcpmendkocnlhaaDoorPlacem
namespace Go.Proofs.YtcpmendkocnlhaaDoor
open Go.RowKit
set_option linter.unusedVariables false

theorem insB_false {zs ts : List Int} (hl : ts.length = zs.length) {k : Nat} (hk : k < zs.length) (h : ¬ (0 ≤ nth ts k ∧ nth ts k < nth zs k)) : insB zs ts = false := by
  rw [← Bool.not_eq_true, insB_iff hl]; intro hh; exact h (hh k hk)
/-- One step of the place, from the last axis on. -/
theorem where_step {zs ts : List Int} (he : errOf zs = 0) (hi : insB zs ts = true) {q : Nat} (hq : q < zs.length) :
    wrap64 (place (zs.drop (q + 1)) (ts.drop (q + 1)) + wrap64 (nth ts q * prod (zs.drop (q + 1)))) = place (zs.drop q) (ts.drop q) ∧ wrap64 (prod (zs.drop (q + 1)) * nth zs q) = prod (zs.drop q) := by
  have hz := errOf_zero.1 he
  have hbd := place_bd hi
  have hpos := allPos_of_prod hz.2.1 (by omega)
  have hl := insB_len hi
  have e1 := drop_nth zs q hq
  have e2 := drop_nth ts q (by omega)
  have i1 := insB_drop q hi
  have i2 := insB_drop (q + 1) hi
  have b1 := place_bd i1
  have b2 := place_bd i2
  have p1 := prod_drop_le hpos q
  have p2 := prod_drop_le hpos (q + 1)
  rw [e1, e2] at b1
  have b3 := p1
  rw [e1] at b3
  simp only [place, prod] at b1 b3
  have hn : 0 ≤ nth ts q := ((insB_iff hl).1 hi q hq).1
  have h1 : 0 ≤ nth ts q * prod (zs.drop (q + 1)) := Int.mul_nonneg hn (by omega)
  have h4 : prod (zs.drop (q + 1)) * nth zs q = nth zs q * prod (zs.drop (q + 1)) := Int.mul_comm _ _
  rw [e1, e2]
  simp only [place, prod]
  rw [wrap64_small (n := nth ts q * prod (zs.drop (q + 1))) (by omega) (by omega), wrap64_small (by omega) (by omega), wrap64_small (by omega) (by omega), Int.add_comm, h4]
  exact ⟨rfl, rfl⟩
set_option maxRecDepth 100000 in
set_option maxHeartbeats 2000000 in
theorem where_any (a : Option Addr) (cap : Nat) (zs : List Int) (a' : Option Addr) (cap' : Nat) (ts : List Int) (hreach : zs.length ≤ 9223372036854775807) (he : errOf zs = 0) (hins : insB zs ts = true) (n₀ : Nat) (w : World) (hI : IsInts n₀ w a zs) (hI' : IsInts n₀ w a' ts) :
    Calls Tryd.prog 16 #[.slice a zs.length cap, .slice a' ts.length cap'] w fun e w' => e = .returned (.int .i64 (place zs ts)) ∧ w' = w := by
  have HE : Hid (errOf zs = 0) := he
  have HI : Hid (insB zs ts = true) := hins
  have HL : Hid (ts.length = zs.length) := insB_len hins
  clear he hins
  go_enter Tryd.func16, Tryd.ntmps16
  go_wp2_with fail
  go_loop [5, 6, 7] (fun p t i => (∃ q : Nat, q < zs.length ∧ i = .int .i64 q ∧ p = .int .i64 (place (zs.drop (q + 1)) (ts.drop (q + 1))) ∧ t = .int .i64 (prod (zs.drop (q + 1)))) ∨ (i = .int .i64 (-1) ∧ p = .int .i64 (place zs ts) ∧ t = .int .i64 (prod zs))) (fun _ _ i => (intOf i + 1).toNat)
  case atStart =>
    by_cases hz : zs.length = 0
    · right
      have e1 : zs = [] := List.eq_nil_of_length_eq_zero hz
      have e2 : ts = [] := List.eq_nil_of_length_eq_zero (HL.out.trans hz)
      subst e1
      subst e2
      exact ⟨rfl, rfl, rfl⟩
    · left
      have e3 : zs.length - 1 + 1 = zs.length := by omega
      refine ⟨zs.length - 1, by omega, int_eq (by omega), int_eq ?_, int_eq ?_⟩
      · rw [e3, List.drop_length, ← HL.out, List.drop_length]; rfl
      · rw [e3, List.drop_length]; rfl
  case round =>
    rcases hrel with ⟨q, hq, rfl, rfl, rfl⟩ | ⟨rfl, rfl, rfl⟩
    · obtain ⟨b, off, rfl, hb, hcell⟩ := hI.at hq
      have hq' : q < ts.length := by rw [HL.out]; exact hq
      obtain ⟨b', off', rfl, hb', hcell'⟩ := hI'.at hq'
      have hc := hcell q hq
      have hc' := hcell' q hq'
      clear hcell hcell'
      have hst := where_step HE.out HI.out hq
      have HS : Hid (wrap64 (place (zs.drop (q + 1)) (ts.drop (q + 1)) + wrap64 (nth ts q * prod (zs.drop (q + 1)))) = place (zs.drop q) (ts.drop q) ∧ wrap64 (prod (zs.drop (q + 1)) * nth zs q) = prod (zs.drop q)) := hst
      clear hst
      generalize place (zs.drop (q + 1)) (ts.drop (q + 1)) = P0 at *
      generalize prod (zs.drop (q + 1)) = S0 at *
      go_wp2_with fail
      go_round
      case rel =>
        by_cases h0 : q = 0
        · right
          subst h0
          refine ⟨int_eq (by omega), int_eq ?_, int_eq ?_⟩
          · rw [HS.out.1]; rfl
          · rw [HS.out.2]; rfl
        · left
          have e3 : q - 1 + 1 = q := by omega
          refine ⟨q - 1, by omega, int_eq (by omega), int_eq ?_, int_eq ?_⟩
          · rw [HS.out.1, e3]
          · rw [HS.out.2, e3]
      case measure => simp [intOf]
    · go_wp2_with fail
      go_ret
      exact ⟨rfl, rfl⟩
end Go.Proofs.YtcpmendkocnlhaaDoor
