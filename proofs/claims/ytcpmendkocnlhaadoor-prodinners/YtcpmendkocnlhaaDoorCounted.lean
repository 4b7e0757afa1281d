/-
  The indices of a place, counted up to it, as the document defines them.
-/
import Derived.Test.YtcpmendkocnlhaaDoorCoords
import Derived.Test.YtcpmendkocnlhaaDoorBase
namespace Go.Proofs.YtcpmendkocnlhaaDoor
open Go.RowKit
set_option linter.unusedVariables false

theorem ret_slice {a : Option Addr} {n m c : Nat} (h : n = m) : Ending.returned (.slice a n c) = .returned (.slice a m c) := by rw [h]
theorem row_set {wr : World} {B : Nat} {t : TypeId} {n : Nat} {l : List Int} (h : wr.rowIs B t n (fun j => .int .i64 (nth l j))) (hl : l.length = n) {m : Nat} (hm : m < n) (v : Int) : (wr.setCell ⟨B, m, none⟩ (.int .i64 v)).rowIs B t n (fun j => .int .i64 (nth (l.set m v) j)) := by
  refine (h.set m _).congr fun j hj => ?_
  rw [nth_set _ _ _ _ (by rw [hl]; exact hm)]
  by_cases e : j = m
  · rw [if_pos e, if_pos e]
  · rw [if_neg e, if_neg e]

set_option maxRecDepth 100000 in
set_option maxHeartbeats 4000000 in
theorem coords_at (a : Option Addr) (cap : Nat) (zs : List Int) (p : Nat) (he : errOf zs = 0) (hp : (p : Int) < prod zs) (w : World) (hI : IsInts w.heap.size w a zs) :
    Calls Tryd.prog 15 #[.slice a zs.length cap, .int .i64 (p : Int)] w fun e w' => ∃ g, e = .returned (.slice (some ⟨g, 0, none⟩) zs.length zs.length) ∧ w.heap.size ≤ g ∧ w'.rowIs g 3 zs.length (fun j => .int .i64 (nth (cr zs p) j)) ∧ Below w.heap.size w w' := by
  have hz := errOf_zero.1 he
  have hlz : zs.length ≤ 6 := hz.1
  have hp4 : p < 4096 := by omega
  have HE : Hid (errOf zs = 0) := he
  have HA : Hid (AllIn zs) := hz.2.1
  have HP : Hid (AllPos zs) := allPos_of_prod hz.2.1 (by omega)
  have HX : Hid ((p : Int) < prod zs) := hp
  have HC0 : Hid (cr zs 0 = List.replicate zs.length 0) := cr_zero he (by omega)
  clear hz he hp
  have hmk := run_make_row' (P := Tryd.prog) 23 3 (.int .i64 0) 8 Tryd.underlying23 Tryd.infoInt rfl .i64 .i64 zs.length (by omega) (by omega)
  go_enter Tryd.func15, Tryd.ntmps15
  go_wp2_with fail
  clear hmk
  go_loopw [6] (fun i wr => ∃ k : Nat, k ≤ p ∧ i = .int .i64 k ∧ wr.rowIs w.heap.size 3 zs.length (fun j => .int .i64 (nth (cr zs k) j)) ∧ Below w.heap.size w wr) (fun i _ => p - (intOf i).toNat)
  case atStart => exact ⟨0, Nat.zero_le _, rfl, (World.rowIs_made w (.int .i64 0) zs.length 3).congr (fun j _ => by rw [HC0.out, nth_replicate]), (Below.refl _ w).alloc (Nat.le_refl _) _⟩
  case round =>
    obtain ⟨i, hi, rfl, hrow, hB⟩ := hrel
    by_cases hlt : i < p
    · have HI : Hid (((i + 1 : Nat) : Int) < prod zs) := by have := HX.out; show _ < _; omega
      have HN : Hid ((∀ j, j < zs.length → nth (cr zs i) j = nth zs j - 1) → False) := fun h => cr_not_max HE.out HI.out h
      have hz0 : 0 < zs.length := by
        rcases Nat.eq_zero_or_pos zs.length with h | h
        · exact (HN.out fun j hj => by omega).elim
        · exact h
      have HS : Hid (∀ q, q < zs.length → (∀ j, q < j → j < zs.length → nth (cr zs i) j = nth zs j - 1) → nth (cr zs i) q ≠ nth zs q - 1 → cr zs (i + 1) = nxt (cr zs i) q) := fun q h1 h2 h3 => cr_next HE.out HI.out h1 h2 h3
      have HCb : Hid (∀ q, q < zs.length → 0 ≤ nth (cr zs i) q ∧ nth (cr zs i) q < nth zs q) := (insB_iff (cr_length zs i)).1 (cr_fact HE.out (by have := HI.out; omega)).1
      have HCl : Hid ((cr zs i).length = zs.length) := cr_length zs i
      generalize cr zs i = c at *
      generalize hcn : cr zs (i + 1) = cn at *
      have HCN : Hid (cr zs (i + 1) = cn) := hcn
      clear hcn
      go_wp2_with fail
      go_loopw [7] (fun k wr => ∃ q : Nat, q < zs.length ∧ k = .int .i64 q ∧ wr.rowIs w.heap.size 3 zs.length (fun j => .int .i64 (nth (zr c (q + 1)) j)) ∧ (∀ j, q < j → j < zs.length → nth c j = nth zs j - 1) ∧ Below w.heap.size w wr) (fun k _ => (intOf k + 1).toNat)
      case atStart =>
        refine ⟨zs.length - 1, by omega, int_eq (by omega), ?_, fun j h1 h2 => by omega, hB⟩
        have e3 : zs.length - 1 + 1 = c.length := by rw [HCl.out]; omega
        rw [e3, zr_all]
        exact hrow
      case round =>
        clear hrow hB
        obtain ⟨q, hq, rfl, hrow, hmax, hB⟩ := hrel
        have HM : Hid (∀ j, q < j → j < zs.length → nth c j = nth zs j - 1) := hmax
        clear hmax
        obtain ⟨b, off, rfl, hb, hcell⟩ := (hI.below hB).at hq
        have hc := hcell q hq
        clear hcell
        have hcr := hrow.cell hq
        have hfr := hrow.frozen q
        rw [zr_at c (q + 1) q (by omega) (by rw [HCl.out]; omega)] at hcr
        have hx1 : 0 < nth zs q := HP.out _ (nth_mem zs q hq)
        have hx2 : nth zs q ≤ 4096 := (HA.out _ (nth_mem zs q hq)).2
        have hcb := HCb.out q hq
        obtain ⟨hcb1, hcb2⟩ := hcb
        have hd0 : decide ((0 : Int) ≤ (q : Int)) = true := by simp
        by_cases h5 : nth c q = nth zs q - 1
        · have h6 : (nth c q == nth zs q - 1) = true := by simp [h5]
          have hq0 : 0 < q := by
            rcases Nat.eq_zero_or_pos q with h | h
            · refine (HN.out fun j hj => ?_).elim
              by_cases e : j = q
              · rw [e]; exact h5
              · exact HM.out j (by omega) hj
            · exact h
          have HM' : Hid (∀ j, q - 1 < j → j < zs.length → nth c j = nth zs j - 1) := fun j h1 h2 => by
            by_cases e : j = q
            · rw [e]; exact h5
            · exact HM.out j (by omega) h2
          clear h5
          have hrs := row_set hrow (by rw [zr_length c _ (by rw [HCl.out]; omega), HCl.out]) hq 0
          rw [zr_set c q (by rw [HCl.out]; exact hq)] at hrs
          go_wp2_with fail
          go_quiet (fail)
          go_wp2
          have e3 : q - 1 + 1 = q := by omega
          exact ⟨⟨q - 1, by omega, int_eq (by omega), by rw [e3]; exact hrs, HM'.out, (bel_drewN hB _).setCell (p := ⟨w.heap.size, q, none⟩) (Nat.le_refl _) _⟩, by simp [intOf]⟩
        · have h6 : (nth c q == nth zs q - 1) = false := by simp [h5]
          have HNx : Hid (cn = nxt c q) := HS.out q hq HM.out h5
          clear h5
          have hrs := row_set hrow (by rw [zr_length c _ (by rw [HCl.out]; omega), HCl.out]) hq (nth c q + 1)
          go_wp2_with fail
          go_quiet (fail)
          go_wp2
          have hfin : nxt c q = cr zs (i + 1) := by rw [HCN.out, HNx.out]
          have hrs' : (wr.setCell ⟨w.heap.size, q, none⟩ (.int .i64 (nth c q + 1))).rowIs w.heap.size 3 zs.length (fun j => .int .i64 (nth (nxt c q) j)) := hrs
          rw [hfin] at hrs'
          exact ⟨⟨i + 1, by omega, by go_num, hrs', (bel_drewN hB _).setCell (p := ⟨w.heap.size, q, none⟩) (Nat.le_refl _) _⟩, by simp [intOf]; omega⟩
    · obtain rfl : i = p := by omega
      go_wp2_with fail
      go_ret
      exact ⟨w.heap.size, rfl, Nat.le_refl _, hrow, hB⟩
theorem coords_new (a : Option Addr) (cap : Nat) (zs : List Int) (p : Nat) (he : errOf zs = 0) (hp : (p : Int) < prod zs) (w : World) (hI : IsInts w.heap.size w a zs) :
    Calls Tryd.prog 15 #[.slice a zs.length cap, .int .i64 (p : Int)] w fun e w' => ∃ g c, e = .returned (.slice g (cr zs p).length c) ∧ NewInts w.heap.size w' g (cr zs p) ∧ Below w.heap.size w w' :=
  (coords_at a cap zs p he hp w hI).mono fun e w' ⟨g, h1, h2, hrow, hB⟩ => by
    refine ⟨some ⟨g, 0, none⟩, zs.length, ?_, .inr ⟨g, 0, rfl, h2, hrow.lt, fun j hj => ?_, fun j => hrow.frozen _⟩, hB⟩
    · rw [h1]; exact ret_slice (cr_length zs _).symm
    · rw [Nat.zero_add]
      exact hrow.cell (by rw [cr_length] at hj; exact hj)
theorem coords_any (a : Option Addr) (cap : Nat) (zs : List Int) (p : Nat) (he : errOf zs = 0) (hp : (p : Int) < prod zs) (w : World) (hI : IsInts w.heap.size w a zs) :
    Calls Tryd.prog 15 #[.slice a zs.length cap, .int .i64 (p : Int)] w fun e w' => ∃ g c, e = .returned (.slice g (cr zs p).length c) ∧ IsInts w'.heap.size w' g (cr zs p) ∧ Below w.heap.size w w' :=
  (coords_new a cap zs p he hp w hI).mono fun e w' ⟨g, c, h1, h2, h3⟩ => ⟨g, c, h1, h2.ints, h3⟩
end Go.Proofs.YtcpmendkocnlhaaDoor
