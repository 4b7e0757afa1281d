/-
  The program's rows of an array, as pieces of its memory.
-/
import Derived.Test.YtmbgomljofngnabGrdn
import Derived.Test.YtmbgomljofngnabCapi
import Derived.Test.YtmbgomljofngnabChecked
namespace Go.Proofs.Ytmbgomljofngnab
open Go.RowKit
set_option linter.unusedVariables false

/-- A row, as a piece of an array's memory. -/
def rwV (da : Option Addr) (dc long j : Nat) : Value := if dc = j * long then .slice da 0 0 else .slice (da.map fun x => x.add (j * long)) long (dc - j * long)
theorem rwV_is {n₀ : Nat} {W : World} {da : Option Addr} {dz : List Int} {dc n long j : Nat} (h : IsC n₀ W da dz dc) (hn : n * long ≤ dz.length) (hj : j < n) : ∃ ad cp, rwV da dc long j = .slice ad long cp ∧ IsC n₀ W ad (rwL dz long j) cp := by
  have hl := rwL_length hn hj
  have h1 : j * long + long ≤ n * long := by
    have := Nat.mul_le_mul_right long (show j + 1 ≤ n by omega)
    rw [Nat.add_mul, Nat.one_mul] at this; exact this
  have hc := h.2
  unfold rwV
  by_cases e : dc = j * long
  · have h0 : long = 0 := by omega
    rw [if_pos e]
    exact ⟨da, 0, by rw [h0], .inl (List.eq_nil_of_length_eq_zero (by omega)), by omega⟩
  · rw [if_neg e]
    refine ⟨_, _, rfl, ?_, by omega⟩
    by_cases h0 : long = 0
    · exact .inl (List.eq_nil_of_length_eq_zero (by omega))
    · obtain ⟨b, off, rfl, hb, hcell⟩ := h.1.at (q := j * long) (by omega)
      refine .inr ⟨b, off + j * long, by simp [Addr.add], hb, fun q hq => ?_⟩
      rw [hl] at hq
      rw [rwL_nth hq, Nat.add_assoc]
      exact hcell _ (by omega)
/-- What the program's rows of an array are. -/
def RwsP (da : Option Addr) (dc n long : Nat) (w : World) (r : Ending) (w' : World) : Prop :=
  ∃ B, r = .returned (.slice (some ⟨B, 0, none⟩) n n) ∧ w.heap.size ≤ B ∧ w'.rowIs B 22 n (rwV da dc long) ∧ Below w.heap.size w w'
def upV (da : Option Addr) (dc long k j : Nat) : Value := if j < k then rwV da dc long j else .slice none 0 0
theorem upV_set {W : World} {B n : Nat} {da : Option Addr} {dc long k : Nat} (h : W.rowIs B 22 n (upV da dc long k)) (v : Value) (hv : v = rwV da dc long k) : (W.setCell ⟨B, k, none⟩ v).rowIs B 22 n (upV da dc long (k + 1)) := by
  subst hv
  refine (h.set k _).congr fun j hj => ?_
  unfold upV
  by_cases e : j = k
  · rw [if_pos e, if_pos (by omega), e]
  · rw [if_neg e]
    by_cases h1 : j < k
    · rw [if_pos h1, if_pos (by omega)]
    · rw [if_neg h1, if_neg (by omega)]
set_option maxRecDepth 100000 in
set_option maxHeartbeats 4000000 in
theorem rows_any (c : Bool) (sa : Option Addr) (sc : Nat) (sz : List Int) (da : Option Addr) (dc : Nat) (dz : List Int) (n : Nat) (hn : nth sz 0 = (n : Int)) (hn4 : n ≤ 4096) (h1 : 0 < sz.length) (h2 : dz.length ≤ 4096) (w : World) (hs : IsInts w.heap.size w sa sz) (hd : IsC w.heap.size w da dz dc) :
    Calls Try.prog 36 #[.agg #[.bool c, .slice sa sz.length sc, .slice da dz.length dc]] w (RwsP da dc n (dz.length / n) w) := by
  have hmk := run_make_row' (P := Try.prog) 62 22 (.slice none 0 0) 24 Try.underlying62 (by kernel_rfl) rfl .i64 .i64 n (by omega) (by omega)
  obtain ⟨bs, os, rfl, hbs, hcS⟩ := hs.at h1
  have c0 := hcS 0 h1
  rw [hn] at c0
  have HP : Hid (Abx (w.alloc (.cells #[.bool c, .slice (some ⟨bs, os, none⟩) sz.length sc, .slice da dz.length dc] 24)) w.heap.size (.bool c) (.slice (some ⟨bs, os, none⟩) sz.length sc) (.slice da dz.length dc)) := Abx.new w _ _ _
  have HB0 : Hid (Below w.heap.size w (w.alloc (.cells #[.bool c, .slice (some ⟨bs, os, none⟩) sz.length sc, .slice da dz.length dc] 24))) := (Below.refl _ w).alloc (Nat.le_refl _) _
  have c1 : (w.alloc (.cells #[.bool c, .slice (some ⟨bs, os, none⟩) sz.length sc, .slice da dz.length dc] 24)).cell? ⟨bs, os + 0, none⟩ = some (.int .i64 (n : Int)) := (HB0.out.cell (p := ⟨bs, os + 0, none⟩) hbs).trans c0
  rw [Nat.add_zero] at c1
  have p1 := HP.out.c1
  have HD : Hid (dz.length ≤ dc) := hd.2
  clear hcS c0 hs hd
  obtain ⟨L, hL⟩ : ∃ L, L = dz.length / n := ⟨_, rfl⟩
  rw [← hL]
  have HL : Hid (L = dz.length / n) := hL
  clear hL
  go_enter Try.func36, Try.ntmps36
  go_wp2_with fail
  clear hmk
  go_loopw [13] (fun i wr => ∃ k : Nat, k ≤ n ∧ i = .int .i64 k ∧ Abx wr w.heap.size (.bool c) (.slice (some ⟨bs, os, none⟩) sz.length sc) (.slice da dz.length dc) ∧ wr.rowIs (w.heap.size + 1) 22 n (upV da dc L k) ∧ Below w.heap.size w wr) (fun i _ => n - (intOf i).toNat)
  case atStart =>
    refine ⟨0, Nat.zero_le _, rfl, HP.out.al _, ?_, HB0.out.alloc HB0.out.size _⟩
    have h := World.rowIs_made (w.alloc (.cells #[.bool c, .slice (some ⟨bs, os, none⟩) sz.length sc, .slice da dz.length dc] 24)) (.slice none 0 0) n 22
    rw [World.size_alloc] at h
    exact h.congr fun j _ => by unfold upV; rw [if_neg (by omega)]
  case round =>
    obtain ⟨k, hk, rfl, hA, hrow, hB⟩ := hrel
    have HA : Hid (Abx wr w.heap.size (.bool c) (.slice (some ⟨bs, os, none⟩) sz.length sc) (.slice da dz.length dc)) := hA
    have HR : Hid (wr.rowIs (w.heap.size + 1) 22 n (upV da dc L k)) := hrow
    have HB : Hid (Below w.heap.size w wr) := hB
    clear hB
    by_cases hlt : k < n
    · have p2 := hA.c2
      have hL := HL.out
      have e1 : (dz.length : Int) / (n : Int) = (L : Int) := by rw [hL]; rfl
      obtain ⟨D, hD⟩ : ∃ D, D = dz.length := ⟨_, rfl⟩
      have hD4 : D ≤ 4096 := by omega
      have hDc : D ≤ dc := by rw [hD]; exact HD.out
      rw [← hD] at p2 e1
      obtain ⟨K0, hK0⟩ : ∃ K0, K0 = k * L := ⟨_, rfl⟩
      have e2 : (k : Int) * (L : Int) = (K0 : Int) := by rw [hK0]; exact (Int.natCast_mul _ _).symm
      have e3 : ((k : Int) + 1) * (L : Int) = ((K0 + L : Nat) : Int) := by rw [Int.add_mul, e2, Int.one_mul]; rfl
      have hKD : K0 + L ≤ D := by
        have := Nat.mul_le_mul_right L (show k + 1 ≤ n by omega)
        rw [Nat.add_mul, Nat.one_mul, ← hK0] at this
        have h5 : n * L ≤ dz.length := by rw [hL]; exact Nat.mul_div_le _ _
        omega
      have hn0 : (n : Int) ≠ 0 := by omega
      obtain ⟨K1, hK1⟩ : ∃ K1, K1 = K0 + L := ⟨_, rfl⟩
      rw [← hK1] at e3 hKD
      have h01 : K0 ≤ K1 := by omega
      have hK1c : K1 ≤ dc := by omega
      have hL4 : L ≤ 4096 := by
        have : L ≤ dz.length := by rw [hL]; exact Nat.div_le_self _ _
        omega
      have hK04 : K0 ≤ 4096 := by omega
      have hK14 : K1 ≤ 4096 := by omega
      have HK : Hid (K0 = k * L ∧ K1 = K0 + L) := ⟨hK0, hK1⟩
      have cc : wr.cell? ⟨w.heap.size + 1, k, none⟩ = some (.slice none 0 0) := by
        rw [hrow.cell hlt]; unfold upV; rw [if_neg (by omega)]
      have ff := hrow.frozen k
      clear hL hK0 hK1 hD hA hrow
      by_cases hdc : dc = K0
      · have HV : Hid (Value.slice da 0 0 = rwV da dc L k) := by show _ = _; unfold rwV; rw [if_pos (by rw [← HK.out.1]; exact hdc)]
        have HDC : Hid (dc = K0) := hdc
        subst hdc
        go_wp2_with fail
        exact ⟨⟨k + 1, by omega, by go_num, HA.out.ot (a := ⟨w.heap.size + 1, k, none⟩) (by show w.heap.size ≠ w.heap.size + 1; omega) _, upV_set HR.out _ HV.out, HB.out.setCell (p := ⟨w.heap.size + 1, k, none⟩) (by show w.heap.size ≤ w.heap.size + 1; omega) _⟩, by simp [intOf]; omega⟩
      · have HV : Hid (Value.slice (Option.map (fun x => x.add K0) da) (K1 - K0) (dc - K0) = rwV da dc L k) := by
          show _ = _
          unfold rwV
          rw [if_neg (by rw [← HK.out.1]; exact hdc), ← HK.out.1, HK.out.2, Nat.add_sub_cancel_left]
        go_wp2_with fail
        exact ⟨⟨k + 1, by omega, by go_num, HA.out.ot (a := ⟨w.heap.size + 1, k, none⟩) (by show w.heap.size ≠ w.heap.size + 1; omega) _, upV_set HR.out _ HV.out, HB.out.setCell (p := ⟨w.heap.size + 1, k, none⟩) (by show w.heap.size ≤ w.heap.size + 1; omega) _⟩, by simp [intOf]; omega⟩
    · obtain rfl : k = n := by omega
      clear hA hrow
      go_wp2_with fail
      go_ret
      exact ⟨w.heap.size + 1, rfl, by omega, HR.out.congr (fun j hj => by unfold upV; rw [if_pos hj]), HB.out⟩
end Go.Proofs.Ytmbgomljofngnab
