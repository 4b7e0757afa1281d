/-
  What the program tells of each cell of an array: over whatever is asked of each cell.
-/
import Derived.Test.YteieliajdfbipaaSkk
import Derived.Test.YteieliajdfbipaaCycd
namespace Go.Proofs.Yteieliajdfbipaa
open Go.RowKit
set_option linter.unusedVariables false

/-- An array of numbers, told. -/
def TellP8 (sz D : List Int) (w : World) (e : Ending) (w' : World) : Prop :=
  ∃ xa xc ya yc, e = .returned (.agg #[.bool false, .slice xa sz.length xc, .slice ya D.length yc]) ∧ NewC w.heap.size w' xa sz xc ∧ NewC w.heap.size w' ya D yc ∧ Below w.heap.size w w'
theorem row_go8 {w w' : World} {b : Nat} {t : TypeId} {n : Nat} {f : Nat → Value} (h : w.rowIs b t n f) (hB : Below w.heap.size w w') : w'.rowIs b t n f := h.of_block (hB.block b h.lt)
set_option maxRecDepth 100000 in
set_option maxHeartbeats 2000000 in
theorem tell8_any (c : Bool) (sa : Option Addr) (sc : Nat) (sz : List Int) (da : Option Addr) (dc : Nat) (dz : List Int) (f : Nat) (cs : List Value) (hE : ∀ args w, (callFunc f args).run Try.prog w = .ok (.enter f args) w) (D : List Int) (hD : D.length = dz.length) (h1 : sz.length ≤ 100000) (h2 : dz.length ≤ 4096) (w : World) (hs : IsInts w.heap.size w sa sz) (hd : IsInts w.heap.size w da dz)
    (H : ∀ i, i < dz.length → ∀ w', Below w.heap.size w w' → Calls Try.prog f (.int .i64 (nth dz i) :: cs).toArray w' (NoP (nth D i) w')) :
    Calls Try.prog 18 #[.agg #[.bool c, .slice sa sz.length sc, .slice da dz.length dc], .func (.func f) #[] cs.toArray] w (TellP8 sz D w) := by
  have HI : Hid (IsInts w.heap.size w sa sz ∧ IsInts w.heap.size w da dz) := ⟨hs, hd⟩
  obtain ⟨n, hn⟩ : ∃ n, n = dz.length := ⟨_, rfl⟩
  have HH : Hid (∀ i, i < n → ∀ w', Below w.heap.size w w' → Calls Try.prog f (.int .i64 (nth dz i) :: cs).toArray w' (NoP (nth D i) w')) := by rw [hn]; exact H
  rw [← hn] at h2 ⊢
  have HN : Hid (n = dz.length ∧ D.length = n) := ⟨hn, by rw [hn]; exact hD⟩
  clear hs hd H hn hD
  have hmk := run_make_row' (P := Try.prog) 22 3 (.int .i64 0) 8 Try.underlying22 Try.infoInt rfl .i64 .i64 n (by omega) (by omega)
  go_enter Try.func18, Try.ntmps18
  go_wp2_with fail
  clear hmk
  go_loopw [15] (fun i wr => ∃ k : Nat, k ≤ n ∧ i = .int .i64 k ∧ wr.rowIs (w.heap.size + 2) 3 n (upTo (nth D) k) ∧ Abx wr w.heap.size (.bool c) (.slice sa sz.length sc) (.slice da n dc) ∧ Abx wr (w.heap.size + 1) (.bool false) (.slice none 0 0) (.slice none 0 0) ∧ Below w.heap.size w wr) (fun i _ => n - (intOf i).toNat)
  case atStart =>
    refine ⟨0, Nat.zero_le _, rfl, ?_, ((Abx.new w _ _ _).al _).al _, (Abx.new1 w _ _ _ _).al _, (((Below.refl _ w).alloc (Nat.le_refl _) _).alloc (by simp) _).alloc (by simp; omega) _⟩
    have := World.rowIs_made ((w.alloc (.cells #[.bool c, .slice sa sz.length sc, .slice da n dc] 24)).alloc (.cells #[.bool false, .slice none 0 0, .slice none 0 0] 24)) (.int .i64 0) n 3
    rw [World.size_alloc, World.size_alloc] at this
    exact this.congr (fun j _ => by simp [upTo])
  case round =>
    obtain ⟨k, hk, rfl, hrow, hA, hR, hB⟩ := hrel
    have HA : Hid (Abx wr w.heap.size (.bool c) (.slice sa sz.length sc) (.slice da n dc)) := hA
    have HR : Hid (Abx wr (w.heap.size + 1) (.bool false) (.slice none 0 0) (.slice none 0 0)) := hR
    have HB : Hid (Below w.heap.size w wr) := hB
    have HW : Hid (wr.rowIs (w.heap.size + 2) 3 n (upTo (nth D) k)) := hrow
    clear hA hR hB hrow
    by_cases hlt : k < n
    · obtain ⟨b, off, rfl, hb, hc⟩ := (HI.out.2.below HB.out).at (q := k) (by rw [← HN.out.1]; exact hlt)
      have ck := hc k (by rw [← HN.out.1]; exact hlt)
      clear hc
      obtain ⟨x, hx⟩ : ∃ x, x = nth dz k := ⟨_, rfl⟩
      have HX : Hid (x = nth dz k) := hx
      rw [← hx] at ck
      clear hx
      have HC : Hid (Calls Try.prog f (.int .i64 x :: cs).toArray wr (NoP (nth D k) wr)) := by rw [HX.out]; exact HH.out k hlt wr HB.out
      go_wp2_with fail
      refine HC.out.mono ?_
      rintro e w1 ⟨rfl, hb1⟩
      have hrow := row_go8 HW.out hb1
      have c2 := hrow.cell hlt
      have f2 := hrow.frozen k
      have HW1 : Hid (w1.rowIs (w.heap.size + 2) 3 n (upTo (nth D) k)) := hrow
      have HB1 : Hid (Below wr.heap.size wr w1) := hb1
      clear hb1 hrow
      go_wp2_with fail
      exact ⟨⟨k + 1, by omega, by go_num, upTo_set HW1.out _ rfl, (HA.out.go HB1.out).ot (a := ⟨w.heap.size + 1 + 1, k, none⟩) (by show w.heap.size ≠ w.heap.size + 1 + 1; omega) _, (HR.out.go HB1.out).ot (a := ⟨w.heap.size + 1 + 1, k, none⟩) (by show w.heap.size + 1 ≠ w.heap.size + 1 + 1; omega) _,
          (HB.out.trans (HB1.out.mono HB.out.size)).setCell (p := ⟨w.heap.size + 1 + 1, k, none⟩) (by show w.heap.size ≤ w.heap.size + 1 + 1; omega) _⟩, by simp [intOf]; omega⟩
    · obtain rfl : k = n := by omega
      have c1 := HA.out.c1
      have HX : Hid (NewInts (w.heap.size + 2) wr (some ⟨w.heap.size + 1 + 1, 0, none⟩) D) := upTo_new HW.out (Nat.le_refl _) _ HN.out.2 (fun j hj => rfl)
      have HSw : Hid (IsInts wr.heap.size wr sa sz) := (HI.out.1.below HB.out).mono HB.out.size
      go_wp2_with (at_builtin; refine app_all rfl _ _ rfl _ wr.heap.size (.slice none 0 0) [] 0 rfl sa sz sz.length sc rfl rfl rfl (World.ownsRow_nil _ _ _ _) HSw.out (by omega) (Nat.le_refl _) ?_; intro g gc w3 hown3 hN3 hB3; rw [List.nil_append] at hN3; have HJ : Hid (NewC wr.heap.size w3 g sz gc) := hN3; have HB3 : Hid (Below wr.heap.size wr w3) := hB3; have R3 : Hid (Abx w3 (w.heap.size + 1) (.bool false) (.slice none 0 0) (.slice none 0 0)) := HR.out.go hB3; clear hown3 hN3 hB3; have r0 := R3.out.c0; have r1 := R3.out.c1; have r2 := R3.out.c2; have f0 := R3.out.fr 0; have f1 := R3.out.fr 1; have f2 := R3.out.fr 2)
      have F := R3.out.set3 (.bool false) (.slice g sz.length gc) (.slice (some ⟨w.heap.size + 1 + 1, 0, none⟩) k k)
      have q0 := F.c0
      have q1 := F.c1
      have q2 := F.c2
      have z1 := HR.out.lt
      refine bodyPost_ret (v := .agg #[.bool false, .slice g sz.length gc, .slice (some ⟨w.heap.size + 1 + 1, 0, none⟩) k k]) (by simp [results, Try.results18, go_sem, q0, q1, q2]) rfl ⟨g, gc, some ⟨w.heap.size + 1 + 1, 0, none⟩, k, by rw [HN.out.2], (HJ.out.set3 z1 _ _ _).low HB.out.size, ⟨((HX.out.go HB3.out).set3 (by omega) _ _ _).low (by omega), by rw [HN.out.2]; exact Nat.le_refl _⟩, bel_set3 (HB.out.trans (HB3.out.mono HB.out.size)) (by omega) _ _ _⟩
end Go.Proofs.Yteieliajdfbipaa
