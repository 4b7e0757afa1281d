/-
  Tellp Tell Equal Each2a Each2b Each2, together.
-/
import Derived.Test.YtgaelbgeoobgiaaBase
import Derived.Test.YtgaelbgeoobgiaaEachp
import Derived.Test.YtgaelbgeoobgiaaCutn
import Derived.Deep.QuietTactic
import Derived.BigQuiet
import Derived.Test.YtgaelbgeoobgiaaTwos
import Derived.Test.YtgaelbgeoobgiaaPair
import Derived.Deep.DeepCutAuto
import Derived.Laws.EntriesVeiled
import Derived.Test.YtgaelbgeoobgiaaFree
import Derived.Test.YtgaelbgeoobgiaaEachc
/-! Tellp: What the program finds at each place, one behind the other: its contract over whatever is asked there. -/
namespace Go.Proofs.Ytgaelbgeoobgiaa
open Go.RowKit
set_option linter.unusedVariables false

/-- The numbers at so many places. -/
def upL (V : Nat → Int) (n : Nat) : List Int := (List.range n).map V
theorem upL_length (V : Nat → Int) (n : Nat) : (upL V n).length = n := by simp [upL]
theorem upL_nth (V : Nat → Int) (n : Nat) {j : Nat} (h : j < n) : nth (upL V n) j = V j := by simp [upL, nth, h]
/-- What is told of so many places. -/
def TellP (n : Nat) (V E : Nat → Int) (sz : List Int) (w : World) (e : Ending) (w' : World) : Prop :=
  (∃ i, i < n ∧ E i ≠ 0 ∧ e = .returned (.tuple #[.agg #[.bool false, .slice none 0 0, .slice none 0 0], .iface 76 (.int .i64 (E i))]) ∧ Below w.heap.size w w') ∨
  ((∀ i, i < n → E i = 0) ∧ ∃ xa xc ya yc, e = .returned (.tuple #[.agg #[.bool false, .slice xa sz.length xc, .slice ya n yc], .nilIface]) ∧ NewC w.heap.size w' xa sz xc ∧ NewInts w.heap.size w' ya (upL V n) ∧ Below w.heap.size w w')
/-- The same, with the room of the numbers. -/
def TellQ (n : Nat) (V E : Nat → Int) (sz : List Int) (w : World) (e : Ending) (w' : World) : Prop :=
  (∃ i, i < n ∧ E i ≠ 0 ∧ e = .returned (.tuple #[.agg #[.bool false, .slice none 0 0, .slice none 0 0], .iface 76 (.int .i64 (E i))]) ∧ Below w.heap.size w w') ∨
  ((∀ i, i < n → E i = 0) ∧ ∃ xa xc ya yc, e = .returned (.tuple #[.agg #[.bool false, .slice xa sz.length xc, .slice ya n yc], .nilIface]) ∧ NewC w.heap.size w' xa sz xc ∧ NewC w.heap.size w' ya (upL V n) yc ∧ Below w.heap.size w w')
theorem TellQ.plain {n : Nat} {V E : Nat → Int} {sz : List Int} {w : World} {e : Ending} {w' : World} (h : TellQ n V E sz w e w') : TellP n V E sz w e w' :=
  h.elim .inl (fun ⟨h0, xa, xc, ya, yc, he, hX, hY, hB⟩ => .inr ⟨h0, xa, xc, ya, yc, he, hX, hY.1, hB⟩)
/-- What is asked at a place. -/
def AskP (V E : Nat → Int) (i : Nat) (w : World) (e : Ending) (w' : World) : Prop := e = .returned (.tuple #[.int .i64 (V i), errV (E i)]) ∧ Below w.heap.size w w'
theorem ask_ok {V E : Nat → Int} {i : Nat} (h : E i = 0) {w w' : World} {e : Ending} (H : AskP V E i w e w') : e = .returned (.tuple #[.int .i64 (V i), .nilIface]) ∧ Below w.heap.size w w' := ⟨by rw [H.1, h]; rfl, H.2⟩
theorem ask_no {V E : Nat → Int} {i : Nat} (h : E i ≠ 0) {w w' : World} {e : Ending} (H : AskP V E i w e w') : e = .returned (.tuple #[.int .i64 (V i), .iface 76 (.int .i64 (E i))]) ∧ Below w.heap.size w w' := ⟨by rw [H.1, errV_pos h], H.2⟩
theorem row_go {w w' : World} {b : Nat} {t : TypeId} {n : Nat} {f : Nat → Value} (h : w.rowIs b t n f) (hB : Below w.heap.size w w') : w'.rowIs b t n f := h.of_block (hB.block b h.lt)
theorem news_of {w : World} {ad : Addr} {zs : List Int} {m : Nat} (hI : IsInts m w (some ad) zs) : ∀ j u, (zs.map (Value.int .i64))[j]? = some u → w.cell? (ad.add j) = some u := by
  intro j u hj
  rw [List.getElem?_map] at hj
  by_cases hl : j < zs.length
  · obtain ⟨b, off, e, hb, hc⟩ := hI.at hl
    cases e
    rw [List.getElem?_eq_getElem hl] at hj
    simp only [Option.map_some] at hj
    obtain rfl := Option.some.inj hj
    rw [← nth_get zs j hl]
    have e : (⟨b, off, none⟩ : Addr).add j = ⟨b, off + j, none⟩ := by
      unfold Addr.add; split
      · rename_i h0; subst h0; rfl
      · rfl
    rw [e]; exact hc j hl
  · rw [List.getElem?_eq_none (by omega)] at hj; cases hj
end Go.Proofs.Ytgaelbgeoobgiaa
/-! Tell: What the program finds at each place, one behind the other: its contract over whatever is asked there. -/
namespace Go.Proofs.Ytgaelbgeoobgiaa
open Go.RowKit
set_option linter.unusedVariables false

set_option maxRecDepth 100000 in
set_option maxHeartbeats 2000000 in
theorem tell_all (c : Bool) (sa : Option Addr) (sc : Nat) (sz : List Int) (da : Option Addr) (dc : Nat) (dz : List Int) (f : Nat) (cs : List Value) (hE : ∀ args w, (callFunc f args).run Try.prog w = .ok (.enter f args) w) (V E : Nat → Int) (h1 : sz.length ≤ 100000) (h2 : dz.length ≤ 4096) (w : World) (hs : IsInts w.heap.size w sa sz)
    (H : ∀ i, i < dz.length → ∀ w', Below w.heap.size w w' → Calls Try.prog f (.int .i64 (i : Nat) :: cs).toArray w' (AskP V E i w')) :
    Calls Try.prog 34 #[.agg #[.bool c, .slice sa sz.length sc, .slice da dz.length dc], .func (.func f) #[] cs.toArray] w (TellQ dz.length V E sz w) := by
  obtain ⟨n, hn⟩ : ∃ n, n = dz.length := ⟨_, rfl⟩
  rw [← hn] at H h2 ⊢
  have HN : Hid (n = dz.length) := hn
  clear hn
  have hmk := run_make_row' (P := Try.prog) 22 3 (.int .i64 0) 8 Try.underlying22 Try.infoInt rfl .i64 .i64 n (by omega) (by omega)
  go_enter Try.func34, Try.ntmps34
  go_wp2_with fail
  clear hmk
  have HS : Hid (IsInts w.heap.size w sa sz) := hs
  clear hs
  have HH : Hid (∀ i, i < n → ∀ w', Below w.heap.size w w' → Calls Try.prog f (.int .i64 (i : Nat) :: cs).toArray w' (AskP V E i w')) := H
  clear H
  go_loopw [16] (fun i wr => ∃ k : Nat, k ≤ n ∧ i = .int .i64 k ∧ (∀ j, j < k → E j = 0) ∧ wr.rowIs (w.heap.size + 2) 3 n (upTo V k) ∧ Abx wr w.heap.size (.bool c) (.slice sa sz.length sc) (.slice da n dc) ∧ Abx wr (w.heap.size + 1) (.bool false) (.slice none 0 0) (.slice none 0 0) ∧ Below w.heap.size w wr) (fun i _ => n - (intOf i).toNat)
  case atStart =>
    refine ⟨0, Nat.zero_le _, rfl, fun j hj => absurd hj (by omega), ?_, ((Abx.new w _ _ _).al _).al _, (Abx.new1 w _ _ _ _).al _, (((Below.refl _ w).alloc (Nat.le_refl _) _).alloc (by simp) _).alloc (by simp; omega) _⟩
    have := World.rowIs_made ((w.alloc (.cells #[.bool c, .slice sa sz.length sc, .slice da n dc] 24)).alloc (.cells #[.bool false, .slice none 0 0, .slice none 0 0] 24)) (.int .i64 0) n 3
    rw [World.size_alloc, World.size_alloc] at this
    exact this.congr (fun j _ => by simp [upTo])
  case round =>
    obtain ⟨k, hk, rfl, hz, hrow, hA, hR, hB⟩ := hrel
    have HZ : Hid (∀ j, j < k → E j = 0) := hz
    clear hz
    have HA : Hid (Abx wr w.heap.size (.bool c) (.slice sa sz.length sc) (.slice da n dc)) := hA
    have HR : Hid (Abx wr (w.heap.size + 1) (.bool false) (.slice none 0 0) (.slice none 0 0)) := hR
    have HB : Hid (Below w.heap.size w wr) := hB
    have HW : Hid (wr.rowIs (w.heap.size + 2) 3 n (upTo V k)) := hrow
    clear hA hR hB hrow
    by_cases hlt : k < n
    · by_cases he : E k = 0
      · have HE : Hid (E k = 0) := he
        clear he
        go_wp2_with fail
        refine (HH.out k hlt wr HB.out).mono ?_
        intro e w1 ha
        obtain ⟨rfl, hb⟩ := ask_ok HE.out ha
        have hrow := row_go HW.out hb
        have c2 := hrow.cell hlt
        have f2 := hrow.frozen k
        have HW1 : Hid (w1.rowIs (w.heap.size + 2) 3 n (upTo V k)) := hrow
        have HB1 : Hid (Below wr.heap.size wr w1) := hb
        clear ha hb hrow
        go_wp2_with fail
        exact ⟨⟨k + 1, by omega, by go_num, allN HZ.out HE.out, upTo_set HW1.out _ rfl, (HA.out.go HB1.out).ot (a := ⟨w.heap.size + 1 + 1, k, none⟩) (by show w.heap.size ≠ w.heap.size + 1 + 1; omega) _, (HR.out.go HB1.out).ot (a := ⟨w.heap.size + 1 + 1, k, none⟩) (by show w.heap.size + 1 ≠ w.heap.size + 1 + 1; omega) _,
          (HB.out.trans (HB1.out.mono HB.out.size)).setCell (p := ⟨w.heap.size + 1 + 1, k, none⟩) (by show w.heap.size ≤ w.heap.size + 1 + 1; omega) _⟩, by simp [intOf]; omega⟩
      · have HE : Hid (E k ≠ 0) := he
        clear he
        go_wp2_with fail
        refine (HH.out k hlt wr HB.out).mono ?_
        intro e w1 ha
        obtain ⟨rfl, hb⟩ := ask_no HE.out ha
        have R4 : Hid (Abx w1 (w.heap.size + 1) (.bool false) (.slice none 0 0) (.slice none 0 0)) := HR.out.go hb
        have HB1 : Hid (Below w.heap.size w w1) := HB.out.trans (hb.mono HB.out.size)
        clear ha hb
        have r0 := R4.out.c0
        have r1 := R4.out.c1
        have r2 := R4.out.c2
        have f0 := R4.out.fr 0
        have f1 := R4.out.fr 1
        have f2 := R4.out.fr 2
        go_wp2_with fail
        have F := R4.out.set3 (.bool false) (.slice none 0 0) (.slice none 0 0)
        have q0 := F.c0
        have q1 := F.c1
        have q2 := F.c2
        exact bodyPost_ret (v := .tuple #[.agg #[.bool false, .slice none 0 0, .slice none 0 0], .iface 76 (.int .i64 (E k))]) (by simp [results, Try.results34, go_sem, q0, q1, q2]) rfl (.inl ⟨k, hlt, HE.out, rfl, bel_set3 HB1.out (by omega) _ _ _⟩)
    · obtain rfl : k = n := by omega
      have c1 := HA.out.c1
      have HX : Hid (NewInts (w.heap.size + 2) wr (some ⟨w.heap.size + 1 + 1, 0, none⟩) (upL V k)) := upTo_new HW.out (Nat.le_refl _) _ (upL_length V k) (fun j hj => upL_nth V k hj)
      obtain ⟨i0, hi, hz0, hz1, hz2⟩ := info_parts Try.infoInt
      have H0 := World.ownsRow_nil wr wr.heap.size 3 1
      cases sa with
      | none =>
        have hz : sz = [] := by
          rcases HS.out with h | ⟨_, _, h, _⟩
          · exact h
          · cases h
        subst hz
        clear H0 hi hz0 hz1 hz2
        have r0 := HR.out.c0
        have r1 := HR.out.c1
        have r2 := HR.out.c2
        have f0 := HR.out.fr 0
        have f1 := HR.out.fr 1
        have f2 := HR.out.fr 2
        go_wp2_with fail
        have F := HR.out.set3 (.bool false) (.slice none 0 0) (.slice (some ⟨w.heap.size + 1 + 1, 0, none⟩) k k)
        have q0 := F.c0
        have q1 := F.c1
        have q2 := F.c2
        exact bodyPost_ret (v := .tuple #[.agg #[.bool false, .slice none 0 0, .slice (some ⟨w.heap.size + 1 + 1, 0, none⟩) k k], .nilIface]) (by simp [results, Try.results34, go_sem, q0, q1, q2]) rfl (.inr ⟨HZ.out, none, 0, some ⟨w.heap.size + 1 + 1, 0, none⟩, k, rfl, ⟨.inl rfl, Nat.le_refl _⟩, ⟨(HX.out.set3 (by omega) _ _ _).low (by omega), by rw [upL_length]; exact Nat.le_refl _⟩, bel_set3 HB.out (by omega) _ _ _⟩)
      | some ad =>
        have hnews := news_of (HS.out.below HB.out)
        go_wp2_with (at_builtin; refine wpList_append_own _ rfl _ _ 22 rfl wr.heap.size 3 i0 (.int .i64 0) 1 8 Try.underlying22 hi hz0 hz1 hz2 rfl (by decide) _ _ _ rfl H0 ad sz.length sc (sz.map (Value.int .i64)) rfl (by simp) hnews (fun x hx => by obtain ⟨y, _, rfl⟩ := List.mem_map.1 hx; rfl) (by unfold maxLen; omega) (by omega) (Nat.le_refl _) ?_; intro v' w3 hown' hgrow3 hnil3; rw [List.nil_append, Nat.zero_add] at hown'; have hB3 : Below wr.heap.size wr w3 := (Below.refl _ wr).grown hgrow3 (Nat.le_refl _) (fun j hj => by cases hj); obtain ⟨g, c3, rfl, hIJ⟩ := own_cap hown'; have HJ : Hid (NewC wr.heap.size w3 g sz c3) := hIJ; have HB3 : Hid (Below wr.heap.size wr w3) := hB3; have R3 : Hid (Abx w3 (w.heap.size + 1) (.bool false) (.slice none 0 0) (.slice none 0 0)) := HR.out.go hB3; clear hown' hgrow3 hnil3 hB3 hIJ; have r0 := R3.out.c0; have r1 := R3.out.c1; have r2 := R3.out.c2; have f0 := R3.out.fr 0; have f1 := R3.out.fr 1; have f2 := R3.out.fr 2)
        have F := R3.out.set3 (.bool false) (.slice g sz.length c3) (.slice (some ⟨w.heap.size + 1 + 1, 0, none⟩) k k)
        have q0 := F.c0
        have q1 := F.c1
        have q2 := F.c2
        have z1 := HR.out.lt
        exact bodyPost_ret (v := .tuple #[.agg #[.bool false, .slice g sz.length c3, .slice (some ⟨w.heap.size + 1 + 1, 0, none⟩) k k], .nilIface]) (by simp [results, Try.results34, go_sem, q0, q1, q2]) rfl (.inr ⟨HZ.out, g, c3, some ⟨w.heap.size + 1 + 1, 0, none⟩, k, rfl, (HJ.out.set3 z1 _ _ _).low HB.out.size, ⟨((HX.out.go HB3.out).set3 (by omega) _ _ _).low (by omega), by rw [upL_length]; exact Nat.le_refl _⟩, bel_set3 (HB.out.trans (HB3.out.mono HB.out.size)) (by omega) _ _ _⟩)
theorem tell_any (c : Bool) (sa : Option Addr) (sc : Nat) (sz : List Int) (da : Option Addr) (dc : Nat) (dz : List Int) (f : Nat) (cs : List Value) (hE : ∀ args w, (callFunc f args).run Try.prog w = .ok (.enter f args) w) (V E : Nat → Int) (h1 : sz.length ≤ 100000) (h2 : dz.length ≤ 4096) (w : World) (hs : IsInts w.heap.size w sa sz)
    (H : ∀ i, i < dz.length → ∀ w', Below w.heap.size w w' → Calls Try.prog f (.int .i64 (i : Nat) :: cs).toArray w' (AskP V E i w')) :
    Calls Try.prog 34 #[.agg #[.bool c, .slice sa sz.length sc, .slice da dz.length dc], .func (.func f) #[] cs.toArray] w (TellP dz.length V E sz w) :=
  (tell_all c sa sc sz da dc dz f cs hE V E h1 h2 w hs H).mono fun e w' h => h.plain
end Go.Proofs.Ytgaelbgeoobgiaa
/-! Equal: Are two lists the same? What the library's slices.Equal tells. -/
namespace Go.Proofs.Ytgaelbgeoobgiaa
open Go.RowKit
set_option linter.unusedVariables false

set_option maxRecDepth 100000 in
set_option maxHeartbeats 1000000 in
theorem equal_any (a : Option Addr) (cap : Nat) (zs : List Int) (a' : Option Addr) (cap' : Nat) (us : List Int) (hreach : zs.length ≤ 9223372036854775807) (n₀ : Nat) (w : World) (hI : IsInts n₀ w a zs) (hI' : IsInts n₀ w a' us) :
    Calls Try.prog 56 #[.slice a zs.length cap, .slice a' us.length cap'] w fun e w' => e = .returned (.bool (eqB zs us)) ∧ ∃ m, w' = w.drewN m := by
  by_cases hlen : zs.length = us.length
  · have hl : ((zs.length : Int) != (us.length : Int)) = false := by simp [hlen]
    have H : Hid (zs.length = us.length) := hlen
    clear hlen
    go_enter Try.func56, Try.ntmps56
    go_wp2_with fail
    go_loopw [13] (fun i wr => ∃ k : Nat, k ≤ zs.length ∧ i = .int .i64 k ∧ (∀ j, j < k → nth zs j = nth us j) ∧ ∃ m, wr = w.drewN m) (fun i _ => zs.length - (intOf i).toNat)
    case atStart => exact ⟨0, Nat.zero_le _, rfl, fun j hj => by omega, 0, rfl⟩
    case round =>
      obtain ⟨k, hk, rfl, hsame, m, rfl⟩ := hrel
      have HS : Hid (∀ j, j < k → nth zs j = nth us j) := hsame
      clear hsame
      by_cases hlt : k < zs.length
      · obtain ⟨b, off, rfl, hb, hcell⟩ := hI.at hlt
        obtain ⟨b', off', rfl, hb', hcell'⟩ := hI'.at (q := k) (by rw [← H.out]; exact hlt)
        have hlt' : k < us.length := by rw [← H.out]; exact hlt
        have hc := hcell k hlt
        have hc' := hcell' k hlt'
        clear hcell hcell'
        by_cases he : nth zs k = nth us k
        · have hne : (nth zs k != nth us k) = false := by simp [he]
          have HE : Hid (nth zs k = nth us k) := he
          clear he
          go_wp2_with fail
          go_quiet (fail)
          go_wp2
          go_roundw
          case rel => exact ⟨k + 1, by omega, by go_num, fun j hj => by by_cases e : j = k; · rw [e]; exact HE.out
                                                                        · exact HS.out j (by omega), _, rfl⟩
          case measure => simp [intOf]; omega
        · have hne : (nth zs k != nth us k) = true := by simp [he]
          have hfin : Hid (eqB zs us = false) := eqB_false (fun e => he (by rw [e]))
          go_wp2_with fail
          go_quiet (fail)
          go_wp2
          go_ret
          exact ⟨ret_bool hfin.out.symm, _, World.drewN_drewN ..⟩
      · obtain rfl : k = zs.length := by omega
        have hfin : Hid (eqB zs us = true) := eqB_true (nth_ext H.out HS.out)
        go_wp2_with fail
        go_ret
        exact ⟨ret_bool hfin.out.symm, m, rfl⟩
  · have hl : ((zs.length : Int) != (us.length : Int)) = true := by simp; omega
    have hfin : Hid (eqB zs us = false) := eqB_false (fun e => hlen (by rw [e]))
    go_enter Try.func56, Try.ntmps56
    go_wp2_with fail
    go_ret
    exact ⟨ret_bool hfin.out.symm, 0, rfl⟩
end Go.Proofs.Ytgaelbgeoobgiaa
/-! Each2a: The parts of each.Two: what fits, which function, which cell. -/
namespace Go.Proofs.Ytgaelbgeoobgiaa
open Go.RowKit
set_option linter.unusedVariables false

/-- Does an array have no axes? -/
def sgl (sz : List Int) : Bool := decide ((sz.length : Int) = 0)
theorem sgl_t {sz : List Int} (h : sz.length = 0) : sgl sz = true := by simp [sgl]; simpa using h
theorem sgl_f {sz : List Int} (h : sz.length ≠ 0) : sgl sz = false := by simp [sgl]; intro e; rw [e] at h; exact h rfl
set_option maxRecDepth 100000 in
set_option maxHeartbeats 1000000 in
theorem single_any (c : Bool) (sa : Option Addr) (sc : Nat) (sz : List Int) (D : Value) (w : World) :
    Calls Try.prog 55 #[.agg #[.bool c, .slice sa sz.length sc, D]] w fun e w' => e = .returned (.bool (sgl sz)) ∧ Below w.heap.size w w' := by
  have HB0 : Hid (Below w.heap.size w (w.alloc (.cells #[.bool c, .slice sa sz.length sc, D] 24))) := (Below.refl _ w).alloc (Nat.le_refl _) _
  go_enter Try.func55, Try.ntmps55
  go_wp2_with fail
  go_ret
  exact ⟨rfl, HB0.out⟩
/-- What is wrong with two shapes. -/
def fitE (sz sz' : List Int) : Int := if sz.length = 0 ∨ sz'.length = 0 then 0 else if sz.length ≠ sz'.length then 3 else if sz ≠ sz' then 4 else 0
set_option maxRecDepth 100000 in
set_option maxHeartbeats 2000000 in
theorem fit_any (c : Bool) (sa : Option Addr) (sc : Nat) (sz : List Int) (D : Value) (c' : Bool) (sa' : Option Addr) (sc' : Nat) (sz' : List Int) (D' : Value) (h1 : sz.length ≤ 9223372036854775807) (w : World) (hs : IsInts w.heap.size w sa sz) (hs' : IsInts w.heap.size w sa' sz') :
    Calls Try.prog 32 #[.agg #[.bool c, .slice sa sz.length sc, D], .agg #[.bool c', .slice sa' sz'.length sc', D']] w fun e w' => e = .returned (errV (fitE sz sz')) ∧ Below w.heap.size w w' := by
  have HI : Hid (IsInts w.heap.size w sa sz ∧ IsInts w.heap.size w sa' sz') := ⟨hs, hs'⟩
  obtain ⟨W0, hW0⟩ : ∃ W0, W0 = (w.alloc (.cells #[.bool c, .slice sa sz.length sc, D] 24)).alloc (.cells #[.bool c', .slice sa' sz'.length sc', D'] 24) := ⟨_, rfl⟩
  have HB0 : Hid (Below w.heap.size w W0) := by rw [hW0]; exact ((Below.refl _ w).alloc (Nat.le_refl _) _).alloc (by simp) _
  have P0 : Hid (Abx W0 w.heap.size (.bool c) (.slice sa sz.length sc) D) := by rw [hW0]; exact (Abx.new w _ _ _).al _
  have Q0 : Hid (Abx W0 (w.heap.size + 1) (.bool c') (.slice sa' sz'.length sc') D') := by rw [hW0]; exact Abx.new1 w _ _ _ _
  have HW : Hid (W0 = _) := hW0
  clear hs hs' hW0
  by_cases h0 : sz.length = 0
  · have HE : Hid (errV (fitE sz sz') = .nilIface) := by show _ = _; unfold fitE; rw [if_pos (.inl h0)]; rfl
    have S0 : Hid (sgl sz = true) := sgl_t h0
    clear h0
    go_enter Try.func32, Try.ntmps32
    go_wp2_with fail
    rw [← HW.out]
    refine (single_any c sa sc sz D W0).mono ?_
    rintro e w1 ⟨rfl, hb⟩
    rw [S0.out]
    have HB1 : Hid (Below w.heap.size w w1) := HB0.out.trans (hb.mono HB0.out.size)
    clear hb
    go_wp2_with fail
    go_ret
    exact ⟨ret_err HE.out, HB1.out⟩
  · have S0 : Hid (sgl sz = false) := sgl_f h0
    by_cases h0' : sz'.length = 0
    · have HE : Hid (errV (fitE sz sz') = .nilIface) := by show _ = _; unfold fitE; rw [if_pos (.inr h0')]; rfl
      have S0' : Hid (sgl sz' = true) := sgl_t h0'
      clear h0 h0'
      go_enter Try.func32, Try.ntmps32
      go_wp2_with fail
      rw [← HW.out]
      refine (single_any c sa sc sz D W0).mono ?_
      rintro e w1 ⟨rfl, hb⟩
      rw [S0.out]
      have HB1 : Hid (Below w.heap.size w w1) := HB0.out.trans (hb.mono HB0.out.size)
      have Q1 : Hid (Abx w1 (w.heap.size + 1) (.bool c') (.slice sa' sz'.length sc') D') := Q0.out.go hb
      have q0 := Q1.out.c0
      have q1 := Q1.out.c1
      have q2 := Q1.out.c2
      clear hb
      go_wp2_with fail
      refine (single_any c' sa' sc' sz' D' w1).mono ?_
      rintro e w2 ⟨rfl, hb⟩
      rw [S0'.out]
      have HB2 : Hid (Below w.heap.size w w2) := HB1.out.trans (hb.mono HB1.out.size)
      clear hb
      go_wp2_with fail
      go_ret
      exact ⟨ret_err HE.out, HB2.out⟩
    · have S0' : Hid (sgl sz' = false) := sgl_f h0'
      have HN : Hid (¬ (sz.length = 0 ∨ sz'.length = 0)) := by rintro (h | h); exact h0 h; exact h0' h
      clear h0 h0'
      by_cases hl : sz.length = sz'.length
      · have tl : ((sz.length : Int) != (sz'.length : Int)) = false := by simp [hl]
        have HL : Hid (sz.length = sz'.length) := hl
        clear hl
        go_enter Try.func32, Try.ntmps32
        go_wp2_with fail
        rw [← HW.out]
        refine (single_any c sa sc sz D W0).mono ?_
        rintro e w1 ⟨rfl, hb⟩
        rw [S0.out]
        have HB1 : Hid (Below w.heap.size w w1) := HB0.out.trans (hb.mono HB0.out.size)
        have P1 : Hid (Abx w1 w.heap.size (.bool c) (.slice sa sz.length sc) D) := P0.out.go hb
        have Q1 : Hid (Abx w1 (w.heap.size + 1) (.bool c') (.slice sa' sz'.length sc') D') := Q0.out.go hb
        have q0 := Q1.out.c0
        have q1 := Q1.out.c1
        have q2 := Q1.out.c2
        clear hb
        go_wp2_with fail
        refine (single_any c' sa' sc' sz' D' w1).mono ?_
        rintro e w2 ⟨rfl, hb⟩
        rw [S0'.out]
        have HB2 : Hid (Below w.heap.size w w2) := HB1.out.trans (hb.mono HB1.out.size)
        have P2 := P1.out.go hb
        have Q2 := Q1.out.go hb
        clear q0 q1 q2 hb
        have p1 := P2.c1
        have q1 := Q2.c1
        clear P2 Q2
        go_wp2_with fail
        refine (equal_any sa sc sz sa' sc' sz' h1 w.heap.size w2 (HI.out.1.below HB2.out) (HI.out.2.below HB2.out)).mono ?_
        rintro e w3 ⟨rfl, m, rfl⟩
        by_cases he : sz = sz'
        · have HE : Hid (errV (fitE sz sz') = .nilIface ∧ eqB sz sz' = true) := ⟨by unfold fitE; rw [if_neg HN.out, if_neg (by simpa using HL.out), if_neg (by simpa using he)]; rfl, eqB_true he⟩
          clear he
          rw [HE.out.2]
          go_wp2_with fail
          go_ret
          exact ⟨ret_err HE.out.1, bel_drewN HB2.out _⟩
        · have HE : Hid (errV (fitE sz sz') = .iface 76 (.int .i64 4) ∧ eqB sz sz' = false) := ⟨by unfold fitE; rw [if_neg HN.out, if_neg (by simpa using HL.out), if_pos he]; rfl, eqB_false he⟩
          clear he
          rw [HE.out.2]
          go_wp2_with fail
          go_ret
          exact ⟨ret_err HE.out.1, bel_drewN HB2.out _⟩
      · have tl : ((sz.length : Int) != (sz'.length : Int)) = true := by simp; omega
        have HE : Hid (errV (fitE sz sz') = .iface 76 (.int .i64 3)) := by show _ = _; unfold fitE; rw [if_neg HN.out, if_pos hl]; rfl
        clear hl
        go_enter Try.func32, Try.ntmps32
        go_wp2_with fail
        rw [← HW.out]
        refine (single_any c sa sc sz D W0).mono ?_
        rintro e w1 ⟨rfl, hb⟩
        rw [S0.out]
        have HB1 : Hid (Below w.heap.size w w1) := HB0.out.trans (hb.mono HB0.out.size)
        have P1 : Hid (Abx w1 w.heap.size (.bool c) (.slice sa sz.length sc) D) := P0.out.go hb
        have Q1 : Hid (Abx w1 (w.heap.size + 1) (.bool c') (.slice sa' sz'.length sc') D') := Q0.out.go hb
        have q0 := Q1.out.c0
        have q1 := Q1.out.c1
        have q2 := Q1.out.c2
        clear hb
        go_wp2_with fail
        refine (single_any c' sa' sc' sz' D' w1).mono ?_
        rintro e w2 ⟨rfl, hb⟩
        rw [S0'.out]
        have HB2 : Hid (Below w.heap.size w w2) := HB1.out.trans (hb.mono HB1.out.size)
        have P2 := P1.out.go hb
        have Q2 := Q1.out.go hb
        clear q0 q1 q2 hb
        have p1 := P2.c1
        have q1 := Q2.c1
        clear P2 Q2
        go_wp2_with fail
        go_ret
        exact ⟨ret_err HE.out, HB2.out⟩
set_option maxRecDepth 100000 in
set_option maxHeartbeats 1000000 in
theorem wider_any (c : Bool) (sa : Option Addr) (sc : Nat) (sz : List Int) (da : Option Addr) (dl dc : Nat) (c' : Bool) (sa' : Option Addr) (sc' : Nat) (sz' : List Int) (da' : Option Addr) (dl' dc' : Nat) (w : World) :
    Calls Try.prog 35 #[.agg #[.bool c, .slice sa sz.length sc, .slice da dl dc], .agg #[.bool c', .slice sa' sz'.length sc', .slice da' dl' dc']] w fun e w' => e = .returned (if sz.length = 0 then .agg #[.bool c', .slice sa' sz'.length sc', .slice da' dl' dc'] else .agg #[.bool c, .slice sa sz.length sc, .slice da dl dc]) ∧ Below w.heap.size w w' := by
  obtain ⟨W0, hW0⟩ : ∃ W0, W0 = ((w.alloc (.cells #[.bool c, .slice sa sz.length sc, .slice da dl dc] 24)).alloc (.cells #[.bool c', .slice sa' sz'.length sc', .slice da' dl' dc'] 24)).alloc (.cells #[.bool false, .slice none 0 0, .slice none 0 0] 24) := ⟨_, rfl⟩
  have HB0 : Hid (Below w.heap.size w W0) := by rw [hW0]; exact (((Below.refl _ w).alloc (Nat.le_refl _) _).alloc (by simp) _).alloc (by simp; omega) _
  have P0 : Hid (Abx W0 w.heap.size (.bool c) (.slice sa sz.length sc) (.slice da dl dc)) := by rw [hW0]; exact ((Abx.new w _ _ _).al _).al _
  have Q0 : Hid (Abx W0 (w.heap.size + 1) (.bool c') (.slice sa' sz'.length sc') (.slice da' dl' dc')) := by rw [hW0]; exact (Abx.new1 w _ _ _ _).al _
  have R0 : Hid (Abx W0 (w.heap.size + 1 + 1) (.bool false) (.slice none 0 0) (.slice none 0 0)) := by
    rw [hW0]
    have := Abx.new1 (w.alloc (.cells #[.bool c, .slice sa sz.length sc, .slice da dl dc] 24)) (.cells #[.bool c', .slice sa' sz'.length sc', .slice da' dl' dc'] 24) (.bool false) (.slice none 0 0) (.slice none 0 0)
    rwa [World.size_alloc] at this
  have HW : Hid (W0 = _) := hW0
  clear hW0
  by_cases h0 : sz.length = 0
  · have S0 : Hid (sgl sz = true) := sgl_t h0
    rw [if_pos h0]
    clear h0
    go_enter Try.func35, Try.ntmps35
    go_wp2_with fail
    rw [← HW.out]
    refine (single_any c sa sc sz (.slice da dl dc) W0).mono ?_
    rintro e w1 ⟨rfl, hb⟩
    rw [S0.out]
    have HB1 : Hid (Below w.heap.size w w1) := HB0.out.trans (hb.mono HB0.out.size)
    have Q1 : Hid (Abx w1 (w.heap.size + 1) (.bool c') (.slice sa' sz'.length sc') (.slice da' dl' dc')) := Q0.out.go hb
    have R1 : Hid (Abx w1 (w.heap.size + 1 + 1) (.bool false) (.slice none 0 0) (.slice none 0 0)) := R0.out.go hb
    clear hb
    have p0 := Q1.out.c0
    have p1 := Q1.out.c1
    have p2 := Q1.out.c2
    have r0 := R1.out.c0
    have r1 := R1.out.c1
    have r2 := R1.out.c2
    have f0 := R1.out.fr 0
    have f1 := R1.out.fr 1
    have f2 := R1.out.fr 2
    go_wp2_with fail
    have F := R1.out.set3 (.bool c') (.slice sa' sz'.length sc') (.slice da' dl' dc')
    have q0 := F.c0
    have q1 := F.c1
    have q2 := F.c2
    exact bodyPost_ret (v := .agg #[.bool c', .slice sa' sz'.length sc', .slice da' dl' dc']) (by simp [results, Try.results35, go_sem, q0, q1, q2]) rfl ⟨rfl, bel_set3 HB1.out (by omega) _ _ _⟩
  · have S0 : Hid (sgl sz = false) := sgl_f h0
    rw [if_neg h0]
    clear h0
    go_enter Try.func35, Try.ntmps35
    go_wp2_with fail
    rw [← HW.out]
    refine (single_any c sa sc sz (.slice da dl dc) W0).mono ?_
    rintro e w1 ⟨rfl, hb⟩
    rw [S0.out]
    have HB1 : Hid (Below w.heap.size w w1) := HB0.out.trans (hb.mono HB0.out.size)
    have P1 : Hid (Abx w1 w.heap.size (.bool c) (.slice sa sz.length sc) (.slice da dl dc)) := P0.out.go hb
    have R1 : Hid (Abx w1 (w.heap.size + 1 + 1) (.bool false) (.slice none 0 0) (.slice none 0 0)) := R0.out.go hb
    clear hb
    have p0 := P1.out.c0
    have p1 := P1.out.c1
    have p2 := P1.out.c2
    have r0 := R1.out.c0
    have r1 := R1.out.c1
    have r2 := R1.out.c2
    have f0 := R1.out.fr 0
    have f1 := R1.out.fr 1
    have f2 := R1.out.fr 2
    go_wp2_with fail
    have F := R1.out.set3 (.bool c) (.slice sa sz.length sc) (.slice da dl dc)
    have q0 := F.c0
    have q1 := F.c1
    have q2 := F.c2
    exact bodyPost_ret (v := .agg #[.bool c, .slice sa sz.length sc, .slice da dl dc]) (by simp [results, Try.results35, go_sem, q0, q1, q2]) rfl ⟨rfl, bel_set3 HB1.out (by omega) _ _ _⟩
end Go.Proofs.Ytgaelbgeoobgiaa
/-! Each2b: The functions that each.Two makes: one of two cells, one of a place; and what is asked at a place. -/
namespace Go.Proofs.Ytgaelbgeoobgiaa
open Go.RowKit
set_option linter.unusedVariables false

/-- A block that holds no function value. -/
def Apt (o : Obj) : Prop := ∀ (u : Value) (t : TypeId), o = .cells #[u] t (0, 0) → t ≠ 66
/-- A function value that tells the cell at a place; below B the world is as w0 was. -/
def GetF (B : Nat) (w0 w : World) (v : Value) (n : Nat) (g : Nat → Int) : Prop := ∃ k b o, v = .func (.func k) #[] #[.pointer (some ⟨b, 0, none⟩)] ∧ (∀ args w, (callFunc k args).run Try.prog w = .ok (.enter k args) w) ∧ Apt o ∧ w.heap[b]? = some o ∧
  ∀ i, i < n → ∀ w' : World, w'.heap[b]? = some o → Below B w0 w' → Calls Try.prog k #[.int .i64 (i : Nat), .pointer (some ⟨b, 0, none⟩)] w' fun e w'' => e = .returned (.int .i64 (g i)) ∧ Below w'.heap.size w' w''
section
variable {w w' w0 : World} {v : Value} {n B : Nat} {g : Nat → Int}
theorem GetF.go (h : GetF B w0 w v n g) (hB : Below w.heap.size w w') : GetF B w0 w' v n g := by
  obtain ⟨k, b, o, e, h1, ha, hb, h2⟩ := h
  exact ⟨k, b, o, e, h1, ha, blk_to hb hB, h2⟩
theorem Apt.ne {o : Obj} (ha : Apt o) {b b' : Nat} {x : Value} {t : TypeId} (hb : w.heap[b]? = some o) (h : w.heap[b']? = some (.cells #[x] t (0, 0))) (ht : t = 66) : b ≠ b' := by
  intro e
  subst e
  exact ha x t (Option.some.inj (hb.symm.trans h)) ht
theorem GetF.set (h : GetF B w0 w v n g) {b' : Nat} {x y : Value} {t' : TypeId} (hb' : w.heap[b']? = some (.cells #[x] t' (0, 0))) (ht : t' = 66) : GetF B w0 (w.setCell ⟨b', 0, none⟩ y) v n g := by
  obtain ⟨k, b, o, e, h1, ha, hb, h2⟩ := h
  exact ⟨k, b, o, e, h1, ha, (Below.heap_setCell w ⟨b', 0, none⟩ y b (ha.ne hb hb' ht)).trans hb, h2⟩
end
theorem apt_arr (x y z : Value) : Apt (.cells (cellsA x y z) 24 (0, 0)) := by
  intro u t h
  injection h with h1 h2 h3
  subst h2
  decide
set_option maxHeartbeats 1000000 in
theorem cells1_any (i : Nat) (b : Nat) (da : Option Addr) (dc : Nat) (dz : List Int) (h0 : 0 < dz.length) (m : Nat) (w : World) (hc : w.cell? ⟨b, 2, none⟩ = some (.slice da dz.length dc)) (hd : IsInts m w da dz) :
    Calls Try.prog 57 #[.int .i64 (i : Nat), .pointer (some ⟨b, 0, none⟩)] w fun e w' => e = .returned (.int .i64 (nth dz 0)) ∧ Below w.heap.size w w' := by
  obtain ⟨b', off, rfl, hb, hcell⟩ := hd.at h0
  have hx := hcell 0 h0
  clear hcell hd
  rw [Nat.add_zero] at hx
  go_enter Try.func57, Try.ntmps57
  go_wp2_with fail
  go_ret
  exact ⟨rfl, Below.refl _ _⟩
set_option maxHeartbeats 1000000 in
theorem cells2_any (i : Nat) (b : Nat) (da : Option Addr) (dc : Nat) (dz : List Int) (h0 : i < dz.length) (m : Nat) (w : World) (hc : w.cell? ⟨b, 2, none⟩ = some (.slice da dz.length dc)) (hd : IsInts m w da dz) :
    Calls Try.prog 58 #[.int .i64 (i : Nat), .pointer (some ⟨b, 0, none⟩)] w fun e w' => e = .returned (.int .i64 (nth dz i)) ∧ Below w.heap.size w w' := by
  obtain ⟨b', off, rfl, hb, hcell⟩ := hd.at h0
  have hx := hcell i h0
  clear hcell hd
  go_enter Try.func58, Try.ntmps58
  go_wp2_with fail
  go_ret
  exact ⟨rfl, Below.refl _ _⟩
/-- The cell that stands at a place. -/
def cAt (sz dz : List Int) (i : Nat) : Int := if sz.length = 0 then nth dz 0 else nth dz i
set_option maxRecDepth 100000 in
set_option maxHeartbeats 1000000 in
theorem cellsf_any (c : Bool) (sa : Option Addr) (sc : Nat) (sz : List Int) (da : Option Addr) (dc : Nat) (dz : List Int) (n : Nat) (h0 : sz.length = 0 → 0 < dz.length) (hn : sz.length ≠ 0 → n ≤ dz.length) (B : Nat) (w0 w : World) (hd : IsInts B w0 da dz) :
    Calls Try.prog 33 #[.agg #[.bool c, .slice sa sz.length sc, .slice da dz.length dc]] w fun e w' => ∃ v, e = .returned v ∧ GetF B w0 w' v n (cAt sz dz) ∧ Below w.heap.size w w' := by
  have HB0 : Hid (Below w.heap.size w (w.alloc (.cells #[.bool c, .slice sa sz.length sc, .slice da dz.length dc] 24))) := (Below.refl _ w).alloc (Nat.le_refl _) _
  have P0 : Hid (Abx (w.alloc (.cells #[.bool c, .slice sa sz.length sc, .slice da dz.length dc] 24)) w.heap.size (.bool c) (.slice sa sz.length sc) (.slice da dz.length dc)) := Abx.new w _ _ _
  have HD : Hid (IsInts B w0 da dz) := hd
  clear hd
  by_cases h : sz.length = 0
  · have S0 : Hid (sgl sz = true ∧ sz.length = 0 ∧ 0 < dz.length) := ⟨sgl_t h, h, h0 h⟩
    clear h h0 hn
    go_enter Try.func33, Try.ntmps33
    go_wp2_with fail
    refine (single_any c sa sc sz (.slice da dz.length dc) _).mono ?_
    rintro e w1 ⟨rfl, hb⟩
    rw [S0.out.1]
    have P1 : Hid (Abx w1 w.heap.size (.bool c) (.slice sa sz.length sc) (.slice da dz.length dc)) := P0.out.go hb
    have HB1 : Hid (Below w.heap.size w w1) := HB0.out.trans (hb.mono HB0.out.size)
    clear hb
    go_wp2_with fail
    go_ret
    refine ⟨.func (.func 57) #[] #[.pointer (some ⟨w.heap.size, 0, none⟩)], rfl, ⟨_, _, _, rfl, enters_of Try.func57 (by kernel_rfl) rfl, apt_arr _ _ _, P1.out, fun i hi w' hA hB => ?_⟩, HB1.out⟩
    unfold cAt
    rw [if_pos S0.out.2.1]
    exact cells1_any i _ da dc dz S0.out.2.2 B w' (Abx.c2 (show Abx w' w.heap.size _ _ _ from hA)) (HD.out.below hB)
  · have S0 : Hid (sgl sz = false ∧ sz.length ≠ 0 ∧ n ≤ dz.length) := ⟨sgl_f h, h, hn h⟩
    clear h h0 hn
    go_enter Try.func33, Try.ntmps33
    go_wp2_with fail
    refine (single_any c sa sc sz (.slice da dz.length dc) _).mono ?_
    rintro e w1 ⟨rfl, hb⟩
    rw [S0.out.1]
    have P1 : Hid (Abx w1 w.heap.size (.bool c) (.slice sa sz.length sc) (.slice da dz.length dc)) := P0.out.go hb
    have HB1 : Hid (Below w.heap.size w w1) := HB0.out.trans (hb.mono HB0.out.size)
    clear hb
    go_wp2_with fail
    go_ret
    refine ⟨.func (.func 58) #[] #[.pointer (some ⟨w.heap.size, 0, none⟩)], rfl, ⟨_, _, _, rfl, enters_of Try.func58 (by kernel_rfl) rfl, apt_arr _ _ _, P1.out, fun i hi w' hA hB => ?_⟩, HB1.out⟩
    unfold cAt
    rw [if_neg S0.out.2.1]
    exact cells2_any i _ da dc dz (Nat.lt_of_lt_of_le hi S0.out.2.2) B w' (Abx.c2 (show Abx w' w.heap.size _ _ _ from hA)) (HD.out.below hB)
set_option maxRecDepth 100000 in
set_option maxHeartbeats 2000000 in
theorem two1_any (f : Int) (t : Bool) (n : Nat) (g g' : Nat → Int) (b1 b2 b3 : Nat) (v1 v2 v3 : Value) (i : Nat) (hi : i < n) (w : World) (t1 t2 t3 : TypeId) (h1 : w.heap[b1]? = some (.cells #[v1] t1 (0, 0))) (h2 : w.heap[b2]? = some (.cells #[v2] t2 (0, 0))) (h3 : w.heap[b3]? = some (.cells #[v3] t3 (0, 0)))
    (B : Nat) (w0 : World) (hB0 : Below B w0 w) (hB : B ≤ w.heap.size) (n1 : Nat) (F1 : PairF n1 w v1 f t) (F2 : GetF B w0 w v2 n g) (F3 : GetF B w0 w v3 n g') (T : In64 (g i)) (T' : In64 (g' i)) :
    Calls Try.prog 36 #[.int .i64 (i : Nat), .pointer (some ⟨b1, 0, none⟩), .pointer (some ⟨b2, 0, none⟩), .pointer (some ⟨b3, 0, none⟩)] w (AskP (fun i => tcV f t (g i) (g' i)) (fun i => tcE f t (g i) (g' i)) i w) := by
  obtain ⟨k1, p1, o1, _, rfl, e1, x1, H1⟩ := F1
  obtain ⟨k2, p2, o2, rfl, e2, _, x2, H2⟩ := F2
  obtain ⟨k3, p3, o3, rfl, e3, _, x3, H3⟩ := F3
  have c1 := cell_of_one h1
  have c2 := cell_of_one h2
  have c3 := cell_of_one h3
  have HH : Hid ((w.heap[b1]? = _) ∧ (w.heap[b2]? = _) ∧ (w.heap[b3]? = _)) := ⟨h1, h2, h3⟩
  have K1 : Hid (_) := H1
  have K2 : Hid (_) := H2
  have K3 : Hid (_) := H3
  have HT : Hid (In64 (g i) ∧ In64 (g' i)) := ⟨T, T'⟩
  have XX : Hid ((w.heap[p1]? = _) ∧ (w.heap[p2]? = _) ∧ (w.heap[p3]? = _)) := ⟨x1, x2, x3⟩
  have HB : Hid (Below B w0 w ∧ B ≤ w.heap.size) := ⟨hB0, hB⟩
  clear h1 h2 h3 H1 H2 H3 T T' x1 x2 x3 hB0 hB
  go_enter Try.func36, Try.ntmps36
  go_wp2_with fail
  refine anyT_begin 10 (fun w' => w'.cell? ⟨b1, 0, none⟩ = some (.func (.func k1) #[] #[.pointer (some ⟨p1, 0, none⟩)]) ∧ w'.cell? ⟨b2, 0, none⟩ = some (.func (.func k2) #[] #[.pointer (some ⟨p2, 0, none⟩)]) ∧ w'.cell? ⟨b3, 0, none⟩ = some (.func (.func k3) #[] #[.pointer (some ⟨p3, 0, none⟩)])) 12 #[false, false, false, false, false, false, false, false, false, false, false, false] (by kernel_rfl) rfl rfl ?_
  refine anyT_take 0 7 ?rv0 #[true, false, false, false, false, false, false, false, false, false, false, false] rfl rfl rfl (by kernel_rfl) (by kernel_rfl) (by kernel_rfl) (fun _ _ _ h => h) (by kernel_rfl) (by decide) (by kernel_rfl) ?ry0 (⟨c1, c2, c3⟩) ?rm0
  case ry0 => first | exact Or.inl ⟨by rfl, by intro w' hw'; (try dsimp only at hw'); go_simp; first | done | rfl⟩
  case rm0 =>
  simp only [Act.put, List.setIfInBounds_toArray, List.set_cons_zero, List.set_cons_succ]
  refine anyT_take 1 8 ?rv1 #[true, true, false, false, false, false, false, false, false, false, false, false] rfl rfl rfl (by kernel_rfl) (by kernel_rfl) (by kernel_rfl) (fun _ _ _ h => h) (by kernel_rfl) (by decide) (by kernel_rfl) ?ry1 (⟨c1, c2, c3⟩) ?rm1
  case ry1 => first | exact Or.inl ⟨by rfl, by intro w' hw'; (try dsimp only at hw'); go_simp; first | done | rfl⟩
  case rm1 =>
  simp only [Act.put, List.setIfInBounds_toArray, List.set_cons_zero, List.set_cons_succ]
  refine anyT_put 2 9 ?rv2 #[true, true, true, false, false, false, false, false, false, false, false, false] rfl rfl rfl (by kernel_rfl) (by kernel_rfl) (by kernel_rfl) (fun _ _ _ h => h) (by decide) ?ry2 (fun _ => ⟨c1, c2, c3⟩) ?rm2
  case ry2 => first | exact Or.inl ⟨by rfl, by intro w'; go_simp; first | done | rfl⟩
  case rm2 =>
  simp only [Act.put, List.setIfInBounds_toArray, List.set_cons_zero, List.set_cons_succ]
  refine anyT_take 4 11 ?rv3 #[true, true, true, false, true, false, false, false, false, false, false, false] rfl rfl rfl (by kernel_rfl) (by kernel_rfl) (by kernel_rfl) (fun _ _ _ h => h) (by kernel_rfl) (by decide) (by kernel_rfl) ?ry3 (⟨c1, c2, c3⟩) ?rm3
  case ry3 => first | exact Or.inl ⟨by rfl, by intro w' hw'; (try dsimp only at hw'); go_simp; first | done | rfl⟩
  case rm3 =>
  simp only [Act.put, List.setIfInBounds_toArray, List.set_cons_zero, List.set_cons_succ]
  refine anyT_put 5 12 ?rv4 #[true, true, true, false, true, true, false, false, false, false, false, false] rfl rfl rfl (by kernel_rfl) (by kernel_rfl) (by kernel_rfl) (fun _ _ _ h => h) (by decide) ?ry4 (fun _ => ⟨c1, c2, c3⟩) ?rm4
  case ry4 => first | exact Or.inl ⟨by rfl, by intro w'; go_simp; first | done | rfl⟩
  case rm4 =>
  simp only [Act.put, List.setIfInBounds_toArray, List.set_cons_zero, List.set_cons_succ]
  refine anyT_one 3 #[true, true, true, true, true, true, false, false, false, false, false, false] (by kernel_rfl) rfl rfl (fun K hK => ?_)
  go_simp
  go_wp2_with fail
  refine (K2.out i hi w.drew XX.out.2.1 HB.out.1.drew).mono ?_
  rintro e w2 ⟨rfl, hB2⟩
  have HB2 : Hid (Below w.heap.size w w2) := (Below.refl _ w).drew.trans hB2
  have D1 := cell_of_one (blk_to HH.out.1 HB2.out)
  have D2 := cell_of_one (blk_to HH.out.2.1 HB2.out)
  have D3 := cell_of_one (blk_to HH.out.2.2 HB2.out)
  refine hK.out _ _ (fun _ => ⟨D1, D2, D3⟩) ?_
  clear hK K
  refine anyT_one 6 #[true, true, true, true, true, true, true, false, false, false, false, false] (by kernel_rfl) rfl rfl (fun K hK => ?_)
  go_simp
  go_wp2_with fail
  refine (K3.out i hi w2 (blk_to XX.out.2.2 HB2.out) (HB.out.1.trans (HB2.out.mono HB.out.2))).mono ?_
  rintro e w3 ⟨rfl, hB3⟩
  have HB3 : Hid (Below w.heap.size w w3) := HB2.out.trans (hB3.mono HB2.out.size)
  have E1 := cell_of_one (blk_to HH.out.1 HB3.out)
  have E2 := cell_of_one (blk_to HH.out.2.1 HB3.out)
  have E3 := cell_of_one (blk_to HH.out.2.2 HB3.out)
  refine hK.out _ _ (fun _ => ⟨E1, E2, E3⟩) ?_
  clear hK K
  refine anyT_one 7 #[true, true, true, true, true, true, true, true, false, false, false, false] (by kernel_rfl) rfl rfl (fun K hK => ?_)
  go_simp
  go_wp2_with fail
  refine (K1.out (g i) (g' i) HT.out.1 HT.out.2 w3 (blk_to XX.out.1 HB3.out)).mono ?_
  rintro e w4 ⟨rfl, hB4⟩
  have HB4 : Hid (Below w.heap.size w w4) := HB3.out.trans (hB4.mono HB3.out.size)
  have G1 := cell_of_one (blk_to HH.out.1 HB4.out)
  have G2 := cell_of_one (blk_to HH.out.2.1 HB4.out)
  have G3 := cell_of_one (blk_to HH.out.2.2 HB4.out)
  refine hK.out _ _ (fun _ => ⟨G1, G2, G3⟩) ?_
  clear hK K
  refine anyT_put 8 15 ?rv8 #[true, true, true, true, true, true, true, true, true, false, false, false] rfl rfl rfl (by kernel_rfl) (by kernel_rfl) (by kernel_rfl) (fun _ _ _ h => h) (by decide) ?ry8 (fun _ => ⟨G1, G2, G3⟩) ?rm8
  case ry8 => first | exact Or.inl ⟨by rfl, by intro w'; go_simp; first | done | rfl⟩
  case rm8 =>
  simp only [Act.put, List.setIfInBounds_toArray, List.set_cons_zero, List.set_cons_succ]
  refine anyT_put 9 16 ?rv9 #[true, true, true, true, true, true, true, true, true, true, false, false] rfl rfl rfl (by kernel_rfl) (by kernel_rfl) (by kernel_rfl) (fun _ _ _ h => h) (by decide) ?ry9 (fun _ => ⟨G1, G2, G3⟩) ?rm9
  case ry9 => first | exact Or.inl ⟨by rfl, by intro w'; go_simp; first | done | rfl⟩
  case rm9 =>
  simp only [Act.put, List.setIfInBounds_toArray, List.set_cons_zero, List.set_cons_succ]
  refine anyT_one 10 #[true, true, true, true, true, true, true, true, true, true, true, false] (by kernel_rfl) rfl rfl (fun K hK => ?_)
  go_simp
  refine hK.out _ _ (fun h => absurd h (by decide)) ?_
  clear hK K
  refine anyT_one 11 #[true, true, true, true, true, true, true, true, true, true, true, true] (by kernel_rfl) rfl rfl (fun K hK => ?_)
  go_simp
  refine hK.out _ _ (fun h => absurd h (by decide)) ?_
  clear hK K
  refine anyT_done (by kernel_rfl) ?_
  go_wp2_with fail
  go_ret2
  exact ⟨rfl, HB4.out⟩
end Go.Proofs.Ytgaelbgeoobgiaa
/-! Each2: What each.Two tells. -/
namespace Go.Proofs.Ytgaelbgeoobgiaa
open Go.RowKit
set_option linter.unusedVariables false

/-- The error of Two of arrays, ahead of the cells', in the program's order. -/
theorem e2F_way (f : Int) (c : Bool) (sz dz : List Int) (c' : Bool) (sz' dz' : List Int) : e2F f c sz dz c' sz' dz' =
    if f < 1 ∨ 16 < f then 1 else if flawE c sz dz ≠ 0 then flawE c sz dz else if flawE c' sz' dz' ≠ 0 then flawE c' sz' dz' else if fitE sz sz' ≠ 0 then fitE sz sz' else if ((c || c') && !tkC f) = true then 6 else 0 := by
  have e : ((c || c') && !tkC f) = true ↔ (c = true ∨ c' = true) ∧ f ≠ 8 ∧ f ≠ 9 := by
    unfold tkC
    simp
  have e1 : flawsE c sz dz c' sz' dz' = if flawE c sz dz = 0 then flawE c' sz' dz' else flawE c sz dz := rfl
  have e2 : sz = sz' → sz.length = sz'.length := fun h => by rw [h]
  unfold e2F fitE
  simp only [e]
  grind
theorem p2E_err {f : Int} {c : Bool} {sz dz : List Int} {c' : Bool} {sz' dz' : List Int} {e : Int} (h : e2F f c sz dz c' sz' dz' = e) (h0 : e ≠ 0) : e2E f c sz dz c' sz' dz' = e := by
  unfold e2E
  rw [h, if_pos h0]
theorem two11 {f : Int} (h : ¬ (f < 1 ∨ 16 < f)) : errV (twoE f 1 1) = .nilIface := by
  unfold twoE
  rw [if_neg h, if_neg (by simp), if_neg (by simp)]
  rfl
theorem two11_no {f : Int} (h : f < 1 ∨ 16 < f) : errV (twoE f 1 1) = .iface 76 (.int .i64 1) := by
  unfold twoE
  rw [if_pos h]
  rfl
theorem mixed_fn {f : Int} {c c' : Bool} (h : ((c || c') && !tkC f) = false) : c ≠ c' → f = 8 ∨ f = 9 := by
  intro hne
  have hk : tkC f = true := by
    cases c <;> cases c' <;> simp_all
  unfold tkC at hk
  exact of_decide_eq_true hk
theorem prod_nil0 {sz : List Int} (h : sz.length = 0) : prod sz = 1 := by rw [List.eq_nil_of_length_eq_zero h]; rfl
theorem e2N_in {f : Int} {c : Bool} {sz dz : List Int} {c' : Bool} {sz' dz' : List Int} (h : e2F f c sz dz c' sz' dz' = 0) :
    (sz.length = 0 → 0 < dz.length) ∧ (sz.length ≠ 0 → e2N sz sz' ≤ dz.length) ∧ (sz'.length = 0 → 0 < dz'.length) ∧ (sz'.length ≠ 0 → e2N sz sz' ≤ dz'.length) := by
  obtain ⟨_, h1, h2, h3, _⟩ := e2F_zero.1 h
  have d1 := (flawE_zero h1).2.1
  have d2 := (flawE_zero h2).2.1
  refine ⟨fun e => ?_, fun e => ?_, fun e => ?_, fun e => ?_⟩
  · rw [prod_nil0 e] at d1; omega
  · unfold e2N shp; rw [if_neg e]; omega
  · rw [prod_nil0 e] at d2; omega
  · unfold e2N shp
    split
    · omega
    · rename_i e'
      rcases h3 with h | h | h
      · exact absurd h e'
      · exact absurd h e
      · rw [h]; omega
theorem e2N_r {f : Int} {c : Bool} {sz dz : List Int} {c' : Bool} {sz' dz' : List Int} (h : e2F f c sz dz c' sz' dz' = 0) (h0 : sz.length = 0) : e2N sz sz' = dz'.length := by
  obtain ⟨_, _, h2, _, _⟩ := e2F_zero.1 h
  have d2 := (flawE_zero h2).2.1
  unfold e2N shp
  rw [if_pos h0]
  omega
theorem e2N_l {f : Int} {c : Bool} {sz dz : List Int} {c' : Bool} {sz' dz' : List Int} (h : e2F f c sz dz c' sz' dz' = 0) (h0 : sz.length ≠ 0) : e2N sz sz' = dz.length := by
  obtain ⟨_, h1, _, _, _⟩ := e2F_zero.1 h
  have d1 := (flawE_zero h1).2.1
  unfold e2N shp
  rw [if_neg h0]
  omega
theorem cAt_cyc {sz dz : List Int} {n i : Nat} (h0 : sz.length = 0 → dz.length = 1) (hn : sz.length ≠ 0 → n ≤ dz.length) (hi : i < n) : cAt sz dz i = e2C dz i := by
  unfold cAt e2C cyA
  by_cases h : sz.length = 0
  · rw [if_pos h, h0 h, if_neg (by decide), Nat.mod_one]
  · have := hn h
    rw [if_neg h, if_neg (by omega), Nat.mod_eq_of_lt (by omega)]
theorem cAt_e2C {f : Int} {c : Bool} {sz dz : List Int} {c' : Bool} {sz' dz' : List Int} (h : e2F f c sz dz c' sz' dz' = 0) {i : Nat} (hi : i < e2N sz sz') : cAt sz dz i = e2C dz i ∧ cAt sz' dz' i = e2C dz' i := by
  obtain ⟨_, h1, h2, _, _⟩ := e2F_zero.1 h
  have d1 := (flawE_zero h1).2.1
  have d2 := (flawE_zero h2).2.1
  obtain ⟨_, a2, _, a4⟩ := e2N_in h
  exact ⟨cAt_cyc (fun e => by rw [prod_nil0 e] at d1; omega) a2 hi, cAt_cyc (fun e => by rw [prod_nil0 e] at d2; omega) a4 hi⟩
theorem p2E_no {f : Int} {c : Bool} {sz dz : List Int} {c' : Bool} {sz' dz' : List Int} (h : e2F f c sz dz c' sz' dz' = 0) {i : Nat} (hi : i < e2N sz sz') (hne : tcE f (c == c') (cAt sz dz i) (cAt sz' dz' i) ≠ 0) :
    tcE f (c == c') (cAt sz dz i) (cAt sz' dz' i) = 6 ∧ e2E f c sz dz c' sz' dz' = 6 := by
  refine ⟨(tcE_cell (e2F_zero.1 h).1 _ _ _).resolve_left hne, ?_⟩
  unfold e2E
  rw [if_neg (by simpa using h), if_neg]
  intro h'
  unfold e2O at h'
  have := List.all_eq_true.1 h' i (List.mem_range.2 hi)
  rw [(cAt_e2C h hi).1, (cAt_e2C h hi).2] at hne
  exact hne (by simpa using this)
theorem p2E_ok {f : Int} {c : Bool} {sz dz : List Int} {c' : Bool} {sz' dz' : List Int} (h : e2F f c sz dz c' sz' dz' = 0) (hall : ∀ i, i < e2N sz sz' → tcE f (c == c') (cAt sz dz i) (cAt sz' dz' i) = 0) :
    e2E f c sz dz c' sz' dz' = 0 ∧ upL (fun i => tcV f (c == c') (cAt sz dz i) (cAt sz' dz' i)) (e2N sz sz') = e2V f c sz dz c' sz' dz' := by
  constructor
  · unfold e2E
    rw [if_neg (by simpa using h), if_pos]
    unfold e2O
    refine List.all_eq_true.2 fun i hi => ?_
    have hi := List.mem_range.1 hi
    have := hall i hi
    rw [(cAt_e2C h hi).1, (cAt_e2C h hi).2] at this
    simpa using this
  · refine nth_ext (by rw [upL_length, e2V_length]) fun j hj => ?_
    rw [upL_length] at hj
    rw [upL_nth _ _ hj, e2V_nth _ _ _ _ _ _ _ hj, (cAt_e2C h hj).1, (cAt_e2C h hj).2]
theorem in_cAt {sz dz : List Int} (T : ∀ j, In64 (nth dz j)) (i : Nat) : In64 (cAt sz dz i) := by
  unfold cAt
  split
  · exact T 0
  · exact T i
/-! ### The two functions that are made, and the two variables that hold them -/
/-- A variable of a function's type that was made behind w0. -/
def Nf (w0 w : World) (v : Value) (t : TypeId) : Prop := ∃ b, v = .pointer (some ⟨b, 0, none⟩) ∧ w0.heap.size ≤ b ∧ w.heap[b]? = some (.cells #[.nilFunc] t (0, 0))
theorem Nf.go {w0 w w' : World} {v : Value} {t : TypeId} (h : Nf w0 w v t) (hB : Below w.heap.size w w') : Nf w0 w' v t := by
  obtain ⟨b, e, h0, hb⟩ := h
  exact ⟨b, e, h0, blk_to hb hB⟩
/-- What is known while they are made. -/
def St16 (B : Nat) (wa w0 : World) (n : Nat) (g g' : Nat → Int) (x1 x3 y4 y5 : Bool) (v59 v61 v15 v16 : Value) (w : World) : Prop :=
  Below w0.heap.size w0 w ∧ (x1 = true → GetF B wa w v59 n g) ∧ (x3 = true → GetF B wa w v61 n g') ∧ (y4 = true → Nf w0 w v15 66) ∧ (y5 = true → Nf w0 w v16 66) ∧ (y4 = true → y5 = true → v15 ≠ v16)
section
variable {B : Nat} {wa w0 w w' : World} {n : Nat} {g g' : Nat → Int} {x1 x3 y4 y5 : Bool} {v59 v61 v15 v16 : Value}
theorem St16.go (h : St16 B wa w0 n g g' x1 x3 y4 y5 v59 v61 v15 v16 w) (hB : Below w.heap.size w w') : St16 B wa w0 n g g' x1 x3 y4 y5 v59 v61 v15 v16 w' := by
  obtain ⟨a1, a2, a3, a4, a5, a6⟩ := h
  exact ⟨a1.trans (hB.mono a1.size), fun e => (a2 e).go hB, fun e => (a3 e).go hB, fun e => (a4 e).go hB, fun e => (a5 e).go hB, a6⟩
theorem Nf.new (h : Below w0.heap.size w0 w) (t : TypeId) : Nf w0 (w.alloc (.cells #[.nilFunc] t)) (.pointer (some ⟨w.heap.size, 0, none⟩)) t := ⟨_, rfl, h.size, (MapKept.heap_alloc w _).1⟩
theorem Nf.old {t : TypeId} (h : Nf w0 w v16 t) : v16 ≠ .pointer (some ⟨w.heap.size, 0, none⟩) := by
  obtain ⟨b, rfl, _, hb⟩ := h
  intro e
  have := lt_of_block hb
  injection e with e1
  injection e1 with e2
  injection e2 with e3 e4 e5
  omega
theorem al_bel (w : World) (o : Obj) : Below w.heap.size w (w.alloc o) := (Below.refl _ w).alloc (Nat.le_refl _) o
theorem St16.m1 (h : St16 B wa w0 n g g' false x3 y4 y5 v59 v61 v15 v16 w) (hB : Below w.heap.size w w') {v : Value} (hv : GetF B wa w' v n g) : St16 B wa w0 n g g' true x3 y4 y5 v v61 v15 v16 w' := by
  obtain ⟨a1, a2, a3, a4, a5, a6⟩ := h.go hB
  exact ⟨a1, fun _ => hv, a3, a4, a5, a6⟩
theorem St16.m3 (h : St16 B wa w0 n g g' x1 false y4 y5 v59 v61 v15 v16 w) (hB : Below w.heap.size w w') {v : Value} (hv : GetF B wa w' v n g') : St16 B wa w0 n g g' x1 true y4 y5 v59 v v15 v16 w' := by
  obtain ⟨a1, a2, a3, a4, a5, a6⟩ := h.go hB
  exact ⟨a1, a2, fun _ => hv, a4, a5, a6⟩
theorem St16.m4 (h : St16 B wa w0 n g g' x1 x3 false y5 v59 v61 v15 v16 w) : St16 B wa w0 n g g' x1 x3 true y5 v59 v61 (.pointer (some ⟨w.heap.size, 0, none⟩)) v16 (w.alloc (.cells #[.nilFunc] 66)) := by
  obtain ⟨a1, a2, a3, a4, a5, a6⟩ := h.go (al_bel w (.cells #[.nilFunc] 66))
  exact ⟨a1, a2, a3, fun _ => Nf.new h.1 _, a5, fun _ e => ((h.2.2.2.2.1 e).old).symm⟩
theorem St16.m5 (h : St16 B wa w0 n g g' x1 x3 y4 false v59 v61 v15 v16 w) : St16 B wa w0 n g g' x1 x3 y4 true v59 v61 v15 (.pointer (some ⟨w.heap.size, 0, none⟩)) (w.alloc (.cells #[.nilFunc] 66)) := by
  obtain ⟨a1, a2, a3, a4, a5, a6⟩ := h.go (al_bel w (.cells #[.nilFunc] 66))
  exact ⟨a1, a2, a3, a4, fun _ => Nf.new h.1 _, fun e _ => (h.2.2.2.1 e).old⟩
end
/-- The two variables, with what they hold. -/
def Got (B : Nat) (wa : World) (n : Nat) (g g' : Nat → Int) (s15 s16 : Value) (w : World) : Prop :=
  ∃ b2 b3 u2 u3, s15 = .pointer (some ⟨b2, 0, none⟩) ∧ s16 = .pointer (some ⟨b3, 0, none⟩) ∧ w.heap[b2]? = some (.cells #[u2] 66 (0, 0)) ∧ w.heap[b3]? = some (.cells #[u3] 66 (0, 0)) ∧ GetF B wa w u2 n g ∧ GetF B wa w u3 n g'
set_option maxRecDepth 100000 in
set_option maxHeartbeats 4000000 in
theorem each_two_d : C2d := by
  intro f c sa sc sz da dc dz c' sa' sc' sz' da' dc' dz' w hf h1 h2 h1' h2' hs hd hs' hd' T T'
  have HI : Hid ((IsInts w.heap.size w sa sz ∧ IsInts w.heap.size w da dz) ∧ (IsInts w.heap.size w sa' sz' ∧ IsInts w.heap.size w da' dz')) := ⟨⟨hs, hd⟩, hs', hd'⟩
  have HT : Hid ((∀ j, In64 (nth dz j)) ∧ ∀ j, In64 (nth dz' j)) := ⟨T, T'⟩
  have HF := e2F_way f c sz dz c' sz' dz'
  have HFH : Hid (_) := HF
  clear HF
  obtain ⟨W0, hW0⟩ : ∃ W0, W0 = ((w.alloc (.cells #[.bool c, .slice sa sz.length sc, .slice da dz.length dc] 24)).alloc (.cells #[.bool c', .slice sa' sz'.length sc', .slice da' dz'.length dc'] 24)).alloc (.cells #[.bool false, .slice none 0 0, .slice none 0 0] 24) := ⟨_, rfl⟩
  have HB0 : Hid (Below w.heap.size w W0) := by rw [hW0]; exact (((Below.refl _ w).alloc (Nat.le_refl _) _).alloc (by simp) _).alloc (by simp; omega) _
  have Pa0 : Hid (Abx W0 w.heap.size (.bool c) (.slice sa sz.length sc) (.slice da dz.length dc)) := by rw [hW0]; exact ((Abx.new w _ _ _).al _).al _
  have Qb0 : Hid (Abx W0 (w.heap.size + 1) (.bool c') (.slice sa' sz'.length sc') (.slice da' dz'.length dc')) := by rw [hW0]; exact (Abx.new1 w _ _ _ _).al _
  have Rr0 : Hid (Abx W0 (w.heap.size + 1 + 1) (.bool false) (.slice none 0 0) (.slice none 0 0)) := by
    rw [hW0]
    have := Abx.new1 (w.alloc (.cells #[.bool c, .slice sa sz.length sc, .slice da dz.length dc] 24)) (.cells #[.bool c', .slice sa' sz'.length sc', .slice da' dz'.length dc'] 24) (.bool false) (.slice none 0 0) (.slice none 0 0)
    rwa [World.size_alloc] at this
  have HW : Hid (W0 = _) := hW0
  clear hs hd hs' hd' T T' hW0
  go_enter Try.func11, Try.ntmps11
  go_wp2_with fail
  rw [← HW.out]
  refine (two_any f 1 1 (by unfold In64; decide) (by unfold In64; decide) W0).mono ?_
  rintro e w1 ⟨rfl, hb⟩
  have HB1 : Hid (Below w.heap.size w w1) := HB0.out.trans (hb.mono HB0.out.size)
  have Pa1 : Hid (Abx w1 w.heap.size (.bool c) (.slice sa sz.length sc) (.slice da dz.length dc)) := Pa0.out.go hb
  have Qb1 : Hid (Abx w1 (w.heap.size + 1) (.bool c') (.slice sa' sz'.length sc') (.slice da' dz'.length dc')) := Qb0.out.go hb
  have Rr1 : Hid (Abx w1 (w.heap.size + 1 + 1) (.bool false) (.slice none 0 0) (.slice none 0 0)) := Rr0.out.go hb
  clear hb
  by_cases hg : f < 1 ∨ 16 < f
  · have HE : Hid (e2E f c sz dz c' sz' dz' = 1) := p2E_err (by rw [HFH.out, if_pos hg]) (by decide)
    rw [two11_no hg]
    have r0 := Rr1.out.c0
    have r1 := Rr1.out.c1
    have r2 := Rr1.out.c2
    have f0 := Rr1.out.fr 0
    have f1 := Rr1.out.fr 1
    have f2 := Rr1.out.fr 2
    go_wp2_with fail
    have F := Rr1.out.set3 (.bool false) (.slice none 0 0) (.slice none 0 0)
    have z0 := F.c0
    have z1 := F.c1
    have z2 := F.c2
    exact bodyPost_ret (v := .tuple #[.agg #[.bool false, .slice none 0 0, .slice none 0 0], .iface 76 (.int .i64 1)]) (by simp [results, Try.results11, go_sem, z0, z1, z2]) rfl (P2d.no HE.out (by decide) (bel_set3 HB1.out (by omega) _ _ _))
  · have HG : Hid (¬ (f < 1 ∨ 16 < f)) := hg
    rw [two11 hg]
    clear hg
    have p0 := Pa1.out.c0
    have p1 := Pa1.out.c1
    have p2 := Pa1.out.c2
    go_wp2_with fail
    clear p0 p1 p2
    refine (check_any c sa sc sz da dc dz h1 h2 w1 ((HI.out.1.1.below HB1.out).mono HB1.out.size) ((HI.out.1.2.below HB1.out).mono HB1.out.size)).mono ?_
    rintro e w2 ⟨rfl, hb⟩
    have HB2 : Hid (Below w.heap.size w w2) := HB1.out.trans (hb.mono HB1.out.size)
    have Pa2 : Hid (Abx w2 w.heap.size (.bool c) (.slice sa sz.length sc) (.slice da dz.length dc)) := Pa1.out.go hb
    have Qb2 : Hid (Abx w2 (w.heap.size + 1) (.bool c') (.slice sa' sz'.length sc') (.slice da' dz'.length dc')) := Qb1.out.go hb
    have Rr2 : Hid (Abx w2 (w.heap.size + 1 + 1) (.bool false) (.slice none 0 0) (.slice none 0 0)) := Rr1.out.go hb
    clear hb
    by_cases hx : flawE c sz dz = 0
    · have HX : Hid (flawE c sz dz = 0) := hx
      rw [hx, show errV 0 = .nilIface from rfl]
      clear hx
      have p0 := Qb2.out.c0
      have p1 := Qb2.out.c1
      have p2 := Qb2.out.c2
      go_wp2_with fail
      clear p0 p1 p2
      refine (check_any c' sa' sc' sz' da' dc' dz' h1' h2' w2 ((HI.out.2.1.below HB2.out).mono HB2.out.size) ((HI.out.2.2.below HB2.out).mono HB2.out.size)).mono ?_
      rintro e w3 ⟨rfl, hb⟩
      have HB3 : Hid (Below w.heap.size w w3) := HB2.out.trans (hb.mono HB2.out.size)
      have Pa3 : Hid (Abx w3 w.heap.size (.bool c) (.slice sa sz.length sc) (.slice da dz.length dc)) := Pa2.out.go hb
      have Qb3 : Hid (Abx w3 (w.heap.size + 1) (.bool c') (.slice sa' sz'.length sc') (.slice da' dz'.length dc')) := Qb2.out.go hb
      have Rr3 : Hid (Abx w3 (w.heap.size + 1 + 1) (.bool false) (.slice none 0 0) (.slice none 0 0)) := Rr2.out.go hb
      clear hb
      by_cases hy : flawE c' sz' dz' = 0
      · have HY : Hid (flawE c' sz' dz' = 0) := hy
        rw [hy, show errV 0 = .nilIface from rfl]
        clear hy
        have p0 := Pa3.out.c0
        have p1 := Pa3.out.c1
        have p2 := Pa3.out.c2
        have q0 := Qb3.out.c0
        have q1 := Qb3.out.c1
        have q2 := Qb3.out.c2
        go_wp2_with fail
        clear p0 p1 p2 q0 q1 q2
        refine (fit_any c sa sc sz (.slice da dz.length dc) c' sa' sc' sz' (.slice da' dz'.length dc') h1 w3 ((HI.out.1.1.below HB3.out).mono HB3.out.size) ((HI.out.2.1.below HB3.out).mono HB3.out.size)).mono ?_
        rintro e w4 ⟨rfl, hb⟩
        have HB4 : Hid (Below w.heap.size w w4) := HB3.out.trans (hb.mono HB3.out.size)
        have Pa4 : Hid (Abx w4 w.heap.size (.bool c) (.slice sa sz.length sc) (.slice da dz.length dc)) := Pa3.out.go hb
        have Qb4 : Hid (Abx w4 (w.heap.size + 1) (.bool c') (.slice sa' sz'.length sc') (.slice da' dz'.length dc')) := Qb3.out.go hb
        have Rr4 : Hid (Abx w4 (w.heap.size + 1 + 1) (.bool false) (.slice none 0 0) (.slice none 0 0)) := Rr3.out.go hb
        clear hb
        by_cases hz : fitE sz sz' = 0
        · have HZ : Hid (fitE sz sz' = 0) := hz
          rw [hz, show errV 0 = .nilIface from rfl]
          clear hz
          have p0 := Pa4.out.c0
          have p1 := Pa4.out.c1
          have p2 := Pa4.out.c2
          have q0 := Qb4.out.c0
          have q1 := Qb4.out.c1
          have q2 := Qb4.out.c2
          by_cases hch : ((c || c') && !tkC f) = true
          · have HE : Hid (e2E f c sz dz c' sz' dz' = 6) := p2E_err (by rw [HFH.out, if_neg HG.out, if_neg (by simpa using HX.out), if_neg (by simpa using HY.out), if_neg (by simpa using HZ.out), if_pos hch]) (by decide)
            go_wp2_with fail
            refine (pairing_no f c c' hch w4).mono ?_
            rintro e w5 ⟨rfl, hb⟩
            have HB5 : Hid (Below w.heap.size w w5) := HB4.out.trans (hb.mono HB4.out.size)
            have Pa5 : Hid (Abx w5 w.heap.size (.bool c) (.slice sa sz.length sc) (.slice da dz.length dc)) := Pa4.out.go hb
            have Qb5 : Hid (Abx w5 (w.heap.size + 1) (.bool c') (.slice sa' sz'.length sc') (.slice da' dz'.length dc')) := Qb4.out.go hb
            have Rr5 : Hid (Abx w5 (w.heap.size + 1 + 1) (.bool false) (.slice none 0 0) (.slice none 0 0)) := Rr4.out.go hb
            clear hb
            have Rr6 : Hid (Abx (w5.alloc (.cells #[.nilFunc] 55)) (w.heap.size + 1 + 1) (.bool false) (.slice none 0 0) (.slice none 0 0)) := Rr5.out.al _
            have HB6 : Hid (Below w.heap.size w (w5.alloc (.cells #[.nilFunc] 55))) := HB5.out.alloc HB5.out.size _
            clear hch p0 p1 p2 q0 q1 q2
            have r0 := Rr6.out.c0
            have r1 := Rr6.out.c1
            have r2 := Rr6.out.c2
            have f0 := Rr6.out.fr 0
            have f1 := Rr6.out.fr 1
            have f2 := Rr6.out.fr 2
            go_wp2_with fail
            have F := Rr6.out.set3 (.bool false) (.slice none 0 0) (.slice none 0 0)
            have z0 := F.c0
            have z1 := F.c1
            have z2 := F.c2
            exact bodyPost_ret (v := .tuple #[.agg #[.bool false, .slice none 0 0, .slice none 0 0], .iface 76 (.int .i64 6)]) (by simp [results, Try.results11, go_sem, z0, z1, z2]) rfl (P2d.no HE.out (by decide) (bel_set3 HB6.out (by omega) _ _ _))
          · have HC : Hid (((c || c') && !tkC f) = false) := by show _ = _; simpa using hch
            have H0 : Hid (e2F f c sz dz c' sz' dz' = 0) := by show _ = _; rw [HFH.out, if_neg HG.out, if_neg (by simpa using HX.out), if_neg (by simpa using HY.out), if_neg (by simpa using HZ.out), if_neg hch]
            go_wp2_with fail
            refine (pairing_ok f c c' HC.out w4).mono ?_
            rintro e w5 ⟨v, rfl, hF, hb⟩
            have HB5 : Hid (Below w.heap.size w w5) := HB4.out.trans (hb.mono HB4.out.size)
            have Pa5 : Hid (Abx w5 w.heap.size (.bool c) (.slice sa sz.length sc) (.slice da dz.length dc)) := Pa4.out.go hb
            have Qb5 : Hid (Abx w5 (w.heap.size + 1) (.bool c') (.slice sa' sz'.length sc') (.slice da' dz'.length dc')) := Qb4.out.go hb
            have Rr5 : Hid (Abx w5 (w.heap.size + 1 + 1) (.bool false) (.slice none 0 0) (.slice none 0 0)) := Rr4.out.go hb
            clear hb
            obtain ⟨k1, d1, rfl⟩ := hF.fn
            obtain ⟨w6, hw6⟩ : ∃ w6, w6 = w5.alloc (.cells #[.func (.func k1) #[] #[.pointer (some ⟨d1, 0, none⟩)]] 55) := ⟨_, rfl⟩
            have hb : Below w5.heap.size w5 w6 := by rw [hw6]; exact (Below.refl _ w5).alloc (Nat.le_refl _) _
            have HFF : Hid (PairF w5.heap.size w6 (.func (.func k1) #[] #[.pointer (some ⟨d1, 0, none⟩)]) f (c == c') ∧ w6.heap[w5.heap.size]? = some (.cells #[.func (.func k1) #[] #[.pointer (some ⟨d1, 0, none⟩)]] 55 (0, 0)) ∧ w5.heap.size < w6.heap.size) := ⟨hF.bel hb, by rw [hw6]; exact (MapKept.heap_alloc w5 _).1, by rw [hw6]; simp⟩
            have HB6 : Hid (Below w.heap.size w w6) := HB5.out.trans (hb.mono HB5.out.size)
            have Pa6 : Hid (Abx w6 w.heap.size (.bool c) (.slice sa sz.length sc) (.slice da dz.length dc)) := Pa5.out.go hb
            have Qb6 : Hid (Abx w6 (w.heap.size + 1) (.bool c') (.slice sa' sz'.length sc') (.slice da' dz'.length dc')) := Qb5.out.go hb
            have Rr6 : Hid (Abx w6 (w.heap.size + 1 + 1) (.bool false) (.slice none 0 0) (.slice none 0 0)) := Rr5.out.go hb
            clear hb
            have HW6 : Hid (w6 = _) := hw6
            clear hw6 hF hch p0 p1 p2 q0 q1 q2
            obtain ⟨n, hn⟩ : ∃ n, n = e2N sz sz' := ⟨_, rfl⟩
            have HN : Hid ((sz.length = 0 → 0 < dz.length) ∧ (sz.length ≠ 0 → n ≤ dz.length) ∧ (sz'.length = 0 → 0 < dz'.length) ∧ (sz'.length ≠ 0 → n ≤ dz'.length)) := by rw [hn]; exact e2N_in H0.out
            have HNe : Hid (n = e2N sz sz') := hn
            clear hn
            go_upto_region 16 with fail
            rw [← HW6.out]
            go_cut [15, 16] (fun s15 s16 wd => Got w.heap.size w n (cAt sz dz) (cAt sz' dz') s15 s16 wd ∧ Below w6.heap.size w6 wd)
            case first =>
              have p0 := Pa6.out.c0
              have p1 := Pa6.out.c1
              have p2 := Pa6.out.c2
              have q0 := Qb6.out.c0
              have q1 := Qb6.out.c1
              have q2 := Qb6.out.c2
              refine anyT_begin 7 (fun w' => w'.cell? ⟨w.heap.size, 0, none⟩ = some (.bool c) ∧ w'.cell? ⟨w.heap.size, 1, none⟩ = some (.slice sa sz.length sc) ∧ w'.cell? ⟨w.heap.size, 2, none⟩ = some (.slice da dz.length dc) ∧ w'.cell? ⟨w.heap.size + 1, 0, none⟩ = some (.bool c') ∧ w'.cell? ⟨w.heap.size + 1, 1, none⟩ = some (.slice sa' sz'.length sc') ∧ w'.cell? ⟨w.heap.size + 1, 2, none⟩ = some (.slice da' dz'.length dc')) 8 #[false, false, false, false, false, false, false, false] (by kernel_rfl) rfl rfl ?_
              refine anyT_take 0 58 ?rv0 #[true, false, false, false, false, false, false, false] rfl rfl rfl (by kernel_rfl) (by kernel_rfl) (by kernel_rfl) (fun _ _ _ h => h) (by kernel_rfl) (by decide) (by kernel_rfl) ?ry0 (⟨p0, p1, p2, q0, q1, q2⟩) ?rm0
              case ry0 => first | exact Or.inl ⟨by rfl, by intro w' hw'; (try dsimp only at hw'); go_simp; first | done | rfl⟩
              case rm0 =>
              simp only [Act.put, List.setIfInBounds_toArray, List.set_cons_zero, List.set_cons_succ]
              refine anyT_take 2 60 ?rv1 #[true, false, true, false, false, false, false, false] rfl rfl rfl (by kernel_rfl) (by kernel_rfl) (by kernel_rfl) (fun _ _ _ h => h) (by kernel_rfl) (by decide) (by kernel_rfl) ?ry1 (⟨p0, p1, p2, q0, q1, q2⟩) ?rm1
              case ry1 => first | exact Or.inl ⟨by rfl, by intro w' hw'; (try dsimp only at hw'); go_simp; first | done | rfl⟩
              case rm1 =>
              simp only [Act.put, List.setIfInBounds_toArray, List.set_cons_zero, List.set_cons_succ]
              refine free4 7 2 6 rfl 1 3 4 5 59 61 15 16 (fun x1 x3 y4 y5 => #[true, x1, true, x3, y4, y5, false, false]) (St16 w.heap.size w w6.drew n (cAt sz dz) (cAt sz' dz')) (by kernel_rfl) (by intros; rfl) (by intros; rfl) (by intros; rfl) (by intros; rfl) ?hx ?h1 ?h3 ?h4 ?h5 ?h0 rfl ?hinit
              case hx => (intro x1 x3 y4 y5 v59 v61 v15 v16 w' h; have hb : Below w6.heap.size w6 w' := (Below.refl _ w6).drew.trans h.1; exact ⟨(Pa6.out.go hb).c0, (Pa6.out.go hb).c1, (Pa6.out.go hb).c2, (Qb6.out.go hb).c0, (Qb6.out.go hb).c1, (Qb6.out.go hb).c2⟩)
              case h1 => (intro x3 y4 y5 v59 v61 v15 v16 w' hst; refine op_at 1 rfl (fun K hK => ?_); simp only [put4, Act.put, List.setIfInBounds_toArray, List.set_cons_zero, List.set_cons_succ]; go_simp; go_wp2_with (go_at_call 33; refine (cellsf_any c sa sc sz da dc dz n HN.out.1 HN.out.2.1 w.heap.size w w' HI.out.1.2).mono ?_; rintro e w2 ⟨v, rfl, hF, hB⟩); exact hK.out _ _ ⟨v, rfl, hst.m1 hB hF⟩)
              case h3 => (intro x1 y4 y5 v59 v61 v15 v16 w' hst; refine op_at 3 rfl (fun K hK => ?_); simp only [put4, Act.put, List.setIfInBounds_toArray, List.set_cons_zero, List.set_cons_succ]; go_simp; go_wp2_with (go_at_call 33; refine (cellsf_any c' sa' sc' sz' da' dc' dz' n HN.out.2.2.1 HN.out.2.2.2 w.heap.size w w' HI.out.2.2).mono ?_; rintro e w2 ⟨v, rfl, hF, hB⟩); exact hK.out _ _ ⟨v, rfl, hst.m3 hB hF⟩)
              case h4 => (intro x1 x3 y5 v59 v61 v15 v16 w' hst; refine op_at 4 rfl (fun K hK => ?_); simp only [put4, Act.put, List.setIfInBounds_toArray, List.set_cons_zero, List.set_cons_succ]; go_simp; exact hK.out _ _ ⟨_, rfl, hst.m4⟩)
              case h5 => (intro x1 x3 y4 v59 v61 v15 v16 w' hst; refine op_at 5 rfl (fun K hK => ?_); simp only [put4, Act.put, List.setIfInBounds_toArray, List.set_cons_zero, List.set_cons_succ]; go_simp; exact hK.out _ _ ⟨_, rfl, hst.m5⟩)
              case hinit => exact ⟨Below.refl _ _, fun h => absurd h (by decide), fun h => absurd h (by decide), fun h => absurd h (by decide), fun h => absurd h (by decide), fun h => absurd h (by decide)⟩
              intro v59 v61 v15 v16 w7 hst
              obtain ⟨hb, hG, hG', hN2, hN3, hne⟩ := hst
              obtain ⟨b2, rfl, l2, B2⟩ := hN2 rfl
              obtain ⟨b3, rfl, l3, B3⟩ := hN3 rfl
              obtain ⟨k2, d2, g2⟩ : ∃ k d, v59 = .func (.func k) #[] #[.pointer (some ⟨d, 0, none⟩)] := by (obtain ⟨k, d, _, e, _⟩ := hG rfl; exact ⟨k, d, e⟩)
              obtain ⟨k3, d3, g3⟩ : ∃ k d, v61 = .func (.func k) #[] #[.pointer (some ⟨d, 0, none⟩)] := by (obtain ⟨k, d, _, e, _⟩ := hG' rfl; exact ⟨k, d, e⟩)
              subst g2 g3
              have FF : Hid (GetF w.heap.size w w7 _ n (cAt sz dz) ∧ GetF w.heap.size w w7 _ n (cAt sz' dz')) := ⟨hG rfl, hG' rfl⟩
              have n23 : b2 ≠ b3 := fun e => hne rfl rfl (by rw [e])
              have HB7 : Hid (Below w6.heap.size w6 w7) := (Below.refl _ w6).drew.trans hb
              have Pa7 := Pa6.out.go HB7.out
              have Qb7 := Qb6.out.go HB7.out
              have z0 := Pa6.out.lt
              have z1 := Qb6.out.lt
              have LL : Hid (w6.heap.size ≤ b2 ∧ w6.heap.size ≤ b3) := ⟨l2, l3⟩
              have BB : Hid ((w7.heap[b2]? = _) ∧ (w7.heap[b3]? = _)) := ⟨B2, B3⟩
              have s1 := cell_of_one B2
              have fz1 := free_of_one B2
              clear hb hG hG' hN2 hN3 hne l2 l3 B2 B3
              simp only [put4, Act.put, List.setIfInBounds_toArray, List.set_cons_zero, List.set_cons_succ]
              refine anyT_one 6 #[true, true, true, true, true, true, true, false] (by kernel_rfl) rfl rfl (fun K hK => ?_)
              go_simp
              have B3' := (Below.heap_setCell w7 ⟨b2, 0, none⟩ (.func (.func k2) #[] #[.pointer (some ⟨d2, 0, none⟩)]) b3 (fun e => n23 e.symm)).trans BB.out.2
              have s2 := cell_of_one B3'
              have fz2 := free_of_one B3'
              have Pa8 := Pa7.ot (a := ⟨b2, 0, none⟩) (by have := LL.out.1; show w.heap.size ≠ b2; omega) (.func (.func k2) #[] #[.pointer (some ⟨d2, 0, none⟩)])
              have Qb8 := Qb7.ot (a := ⟨b2, 0, none⟩) (by have := LL.out.1; show w.heap.size + 1 ≠ b2; omega) (.func (.func k2) #[] #[.pointer (some ⟨d2, 0, none⟩)])
              refine hK.out _ _ (fun _ => ⟨Pa8.c0, Pa8.c1, Pa8.c2, Qb8.c0, Qb8.c1, Qb8.c2⟩) ?_
              clear hK K
              refine anyT_one 7 #[true, true, true, true, true, true, true, true] (by kernel_rfl) rfl rfl (fun K hK => ?_)
              go_simp
              refine hK.out _ _ (fun h => absurd h (by decide)) ?_
              clear hK K
              refine anyT_done (by kernel_rfl) ?_
              go_wp2_with fail
              go_meet
              have X2 := (Below.heap_setCell (w7.setCell ⟨b2, 0, none⟩ (.func (.func k2) #[] #[.pointer (some ⟨d2, 0, none⟩)])) ⟨b3, 0, none⟩ (.func (.func k3) #[] #[.pointer (some ⟨d3, 0, none⟩)]) b2 n23).trans (one_setCell (u := .func (.func k2) #[] #[.pointer (some ⟨d2, 0, none⟩)]) BB.out.1)
              have X3 := one_setCell (u := .func (.func k3) #[] #[.pointer (some ⟨d3, 0, none⟩)]) B3'
              exact ⟨⟨b2, b3, _, _, rfl, rfl, X2, X3, (FF.out.1.set BB.out.1 rfl).set B3' rfl, (FF.out.2.set BB.out.1 rfl).set B3' rfl⟩,
                (HB7.out.setCell (p := ⟨b2, 0, none⟩) LL.out.1 _).setCell (p := ⟨b3, 0, none⟩) LL.out.2 _⟩
            case rest =>
              obtain ⟨⟨b2, b3, y2, y3, rfl, rfl, X2, X3, F2, F3⟩, hb⟩ := hcut
              have HB8 : Hid (Below w.heap.size w wc) := HB6.out.trans (hb.mono HB6.out.size)
              have Pa8 : Hid (Abx wc w.heap.size (.bool c) (.slice sa sz.length sc) (.slice da dz.length dc)) := Pa6.out.go hb
              have Qb8 : Hid (Abx wc (w.heap.size + 1) (.bool c') (.slice sa' sz'.length sc') (.slice da' dz'.length dc')) := Qb6.out.go hb
              have Rr8 : Hid (Abx wc (w.heap.size + 1 + 1) (.bool false) (.slice none 0 0) (.slice none 0 0)) := Rr6.out.go hb
              have XX : Hid ((wc.heap[w5.heap.size]? = _) ∧ (wc.heap[b2]? = _) ∧ (wc.heap[b3]? = _)) := ⟨(hb.block _ HFF.out.2.2).trans HFF.out.2.1, X2, X3⟩
              have FF : Hid (PairF w5.heap.size wc (.func (.func k1) #[] #[.pointer (some ⟨d1, 0, none⟩)]) f (c == c') ∧ GetF w.heap.size w wc y2 n (cAt sz dz) ∧ GetF w.heap.size w wc y3 n (cAt sz' dz')) := ⟨HFF.out.1.go hb, F2, F3⟩
              clear hb X2 X3 F2 F3
              have p0 := Pa8.out.c0
              have p1 := Pa8.out.c1
              have p2 := Pa8.out.c2
              have q0 := Qb8.out.c0
              have q1 := Qb8.out.c1
              have q2 := Qb8.out.c2
              go_wp2_with fail
              clear p0 p1 p2 q0 q1 q2
              refine (wider_any c sa sc sz da dz.length dc c' sa' sc' sz' da' dz'.length dc' wc).mono ?_
              rintro e w9 ⟨rfl, hb⟩
              have HB89 : Hid (Below wc.heap.size wc w9) := hb
              have HB9 : Hid (Below w.heap.size w w9) := HB8.out.trans (hb.mono HB8.out.size)
              have Pa9 : Hid (Abx w9 w.heap.size (.bool c) (.slice sa sz.length sc) (.slice da dz.length dc)) := Pa8.out.go hb
              have Qb9 : Hid (Abx w9 (w.heap.size + 1) (.bool c') (.slice sa' sz'.length sc') (.slice da' dz'.length dc')) := Qb8.out.go hb
              have Rr9 : Hid (Abx w9 (w.heap.size + 1 + 1) (.bool false) (.slice none 0 0) (.slice none 0 0)) := Rr8.out.go hb
              clear hb
              by_cases h0 : sz.length = 0
              · rw [if_pos h0]
                have HS : Hid (n = dz'.length ∧ shp sz sz' = sz') := ⟨by rw [HNe.out]; exact e2N_r H0.out h0, if_pos h0⟩
                clear h0
                have HH : Hid (∀ i, i < dz'.length → ∀ w', Below w9.heap.size w9 w' → Calls Try.prog 36 (.int .i64 (i : Nat) :: [.pointer (some ⟨w5.heap.size, 0, none⟩), .pointer (some ⟨b2, 0, none⟩), .pointer (some ⟨b3, 0, none⟩)]).toArray w' (AskP (fun i => tcV f (c == c') (cAt sz dz i) (cAt sz' dz' i)) (fun i => tcE f (c == c') (cAt sz dz i) (cAt sz' dz' i)) i w')) := fun i hi w' hB => by
                  have hB' : Below wc.heap.size wc w' := HB89.out.trans (hB.mono HB89.out.size)
                  exact two1_any f (c == c') n (cAt sz dz) (cAt sz' dz') w5.heap.size b2 b3 (.func (.func k1) #[] #[.pointer (some ⟨d1, 0, none⟩)]) y2 y3 i (by rw [HS.out.1]; exact hi) w' _ _ _ (blk_to XX.out.1 hB') (blk_to XX.out.2.1 hB') (blk_to XX.out.2.2 hB') w.heap.size w (HB8.out.trans (hB'.mono HB8.out.size)) (Nat.le_trans HB8.out.size hB'.size) w5.heap.size (FF.out.1.go hB') (FF.out.2.1.go hB') (FF.out.2.2.go hB') (in_cAt HT.out.1 i) (in_cAt HT.out.2 i)
                have HL : Hid (sz'.length ≤ 6 ∧ dz'.length ≤ 4096) := flawE_short HY.out
                go_wp2_with fail
                refine (tell_all c' sa' sc' sz' da' dc' dz' 36 [.pointer (some ⟨w5.heap.size, 0, none⟩), .pointer (some ⟨b2, 0, none⟩), .pointer (some ⟨b3, 0, none⟩)] (enters_of Try.func36 (by kernel_rfl) rfl) (fun i => tcV f (c == c') (cAt sz dz i) (cAt sz' dz' i)) (fun i => tcE f (c == c') (cAt sz dz i) (cAt sz' dz' i)) (by have := HL.out.1; omega) HL.out.2 w9 ((HI.out.2.1.below HB9.out).mono HB9.out.size) HH.out).mono ?_
                rintro e w10 (⟨i, hi, hne, rfl, hb⟩ | ⟨hall, xa, xc, ya, yc, rfl, hX, hY, hb⟩)
                · have HE : Hid (tcE f (c == c') (cAt sz dz i) (cAt sz' dz' i) = 6 ∧ e2E f c sz dz c' sz' dz' = 6) := p2E_no H0.out (by rw [← HNe.out, HS.out.1]; exact hi) hne
                  have Rr10 : Hid (Abx w10 (w.heap.size + 1 + 1) (.bool false) (.slice none 0 0) (.slice none 0 0)) := Rr9.out.go hb
                  have HB10 : Hid (Below w.heap.size w w10) := HB9.out.trans (hb.mono HB9.out.size)
                  clear hb hne
                  have r0 := Rr10.out.c0
                  have r1 := Rr10.out.c1
                  have r2 := Rr10.out.c2
                  have f0 := Rr10.out.fr 0
                  have f1 := Rr10.out.fr 1
                  have f2 := Rr10.out.fr 2
                  go_wp2_with fail
                  have F := Rr10.out.set3 (.bool false) (.slice none 0 0) (.slice none 0 0)
                  have z0 := F.c0
                  have z1 := F.c1
                  have z2 := F.c2
                  exact bodyPost_ret (v := .tuple #[.agg #[.bool false, .slice none 0 0, .slice none 0 0], .iface 76 (.int .i64 (tcE f (c == c') (cAt sz dz i) (cAt sz' dz' i)))]) (by simp [results, Try.results11, go_sem, z0, z1, z2]) rfl (P2d.no (HE.out.2.trans HE.out.1.symm) (by rw [HE.out.1]; decide) (bel_set3 HB10.out (by omega) _ _ _))
                · have HE : Hid (e2E f c sz dz c' sz' dz' = 0 ∧ upL (fun i => tcV f (c == c') (cAt sz dz i) (cAt sz' dz' i)) dz'.length = e2V f c sz dz c' sz' dz') := by
                    rw [← HS.out.1, HNe.out]
                    exact p2E_ok H0.out fun i hi => hall i (by rw [← HS.out.1, HNe.out]; exact hi)
                  have Rr10 : Hid (Abx w10 (w.heap.size + 1 + 1) (.bool false) (.slice none 0 0) (.slice none 0 0)) := Rr9.out.go hb
                  have HB10 : Hid (Below w.heap.size w w10) := HB9.out.trans (hb.mono HB9.out.size)
                  have HXY : Hid (NewC w9.heap.size w10 xa (shp sz sz') xc ∧ NewC w9.heap.size w10 ya (e2V f c sz dz c' sz' dz') yc) := ⟨by rw [HS.out.2]; exact hX, by rw [← HE.out.2]; exact hY⟩
                  have zz := Rr9.out.lt
                  clear hb hX hY hall
                  have r0 := Rr10.out.c0
                  have r1 := Rr10.out.c1
                  have r2 := Rr10.out.c2
                  have f0 := Rr10.out.fr 0
                  have f1 := Rr10.out.fr 1
                  have f2 := Rr10.out.fr 2
                  go_wp2_with fail
                  have F := Rr10.out.set3 (.bool false) (.slice xa sz'.length xc) (.slice ya dz'.length yc)
                  have z0 := F.c0
                  have z1 := F.c1
                  have z2 := F.c2
                  refine bodyPost_ret (v := .tuple #[.agg #[.bool false, .slice xa sz'.length xc, .slice ya dz'.length yc], .nilIface]) (by simp [results, Try.results11, go_sem, z0, z1, z2]) rfl (.inr ⟨HE.out.1, xa, xc, ya, yc, by rw [e2V_length, HS.out.2, ← HNe.out, HS.out.1], ?_, ?_, bel_set3 HB10.out (by omega) _ _ _⟩)
                  · exact (HXY.out.1.set3 zz _ _ _).low HB9.out.size
                  · exact (HXY.out.2.set3 zz _ _ _).low HB9.out.size
              · rw [if_neg h0]
                have HS : Hid (n = dz.length ∧ shp sz sz' = sz) := ⟨by rw [HNe.out]; exact e2N_l H0.out h0, if_neg h0⟩
                clear h0
                have HH : Hid (∀ i, i < dz.length → ∀ w', Below w9.heap.size w9 w' → Calls Try.prog 36 (.int .i64 (i : Nat) :: [.pointer (some ⟨w5.heap.size, 0, none⟩), .pointer (some ⟨b2, 0, none⟩), .pointer (some ⟨b3, 0, none⟩)]).toArray w' (AskP (fun i => tcV f (c == c') (cAt sz dz i) (cAt sz' dz' i)) (fun i => tcE f (c == c') (cAt sz dz i) (cAt sz' dz' i)) i w')) := fun i hi w' hB => by
                  have hB' : Below wc.heap.size wc w' := HB89.out.trans (hB.mono HB89.out.size)
                  exact two1_any f (c == c') n (cAt sz dz) (cAt sz' dz') w5.heap.size b2 b3 (.func (.func k1) #[] #[.pointer (some ⟨d1, 0, none⟩)]) y2 y3 i (by rw [HS.out.1]; exact hi) w' _ _ _ (blk_to XX.out.1 hB') (blk_to XX.out.2.1 hB') (blk_to XX.out.2.2 hB') w.heap.size w (HB8.out.trans (hB'.mono HB8.out.size)) (Nat.le_trans HB8.out.size hB'.size) w5.heap.size (FF.out.1.go hB') (FF.out.2.1.go hB') (FF.out.2.2.go hB') (in_cAt HT.out.1 i) (in_cAt HT.out.2 i)
                have HL : Hid (sz.length ≤ 6 ∧ dz.length ≤ 4096) := flawE_short HX.out
                go_wp2_with fail
                refine (tell_all c sa sc sz da dc dz 36 [.pointer (some ⟨w5.heap.size, 0, none⟩), .pointer (some ⟨b2, 0, none⟩), .pointer (some ⟨b3, 0, none⟩)] (enters_of Try.func36 (by kernel_rfl) rfl) (fun i => tcV f (c == c') (cAt sz dz i) (cAt sz' dz' i)) (fun i => tcE f (c == c') (cAt sz dz i) (cAt sz' dz' i)) (by have := HL.out.1; omega) HL.out.2 w9 ((HI.out.1.1.below HB9.out).mono HB9.out.size) HH.out).mono ?_
                rintro e w10 (⟨i, hi, hne, rfl, hb⟩ | ⟨hall, xa, xc, ya, yc, rfl, hX, hY, hb⟩)
                · have HE : Hid (tcE f (c == c') (cAt sz dz i) (cAt sz' dz' i) = 6 ∧ e2E f c sz dz c' sz' dz' = 6) := p2E_no H0.out (by rw [← HNe.out, HS.out.1]; exact hi) hne
                  have Rr10 : Hid (Abx w10 (w.heap.size + 1 + 1) (.bool false) (.slice none 0 0) (.slice none 0 0)) := Rr9.out.go hb
                  have HB10 : Hid (Below w.heap.size w w10) := HB9.out.trans (hb.mono HB9.out.size)
                  clear hb hne
                  have r0 := Rr10.out.c0
                  have r1 := Rr10.out.c1
                  have r2 := Rr10.out.c2
                  have f0 := Rr10.out.fr 0
                  have f1 := Rr10.out.fr 1
                  have f2 := Rr10.out.fr 2
                  go_wp2_with fail
                  have F := Rr10.out.set3 (.bool false) (.slice none 0 0) (.slice none 0 0)
                  have z0 := F.c0
                  have z1 := F.c1
                  have z2 := F.c2
                  exact bodyPost_ret (v := .tuple #[.agg #[.bool false, .slice none 0 0, .slice none 0 0], .iface 76 (.int .i64 (tcE f (c == c') (cAt sz dz i) (cAt sz' dz' i)))]) (by simp [results, Try.results11, go_sem, z0, z1, z2]) rfl (P2d.no (HE.out.2.trans HE.out.1.symm) (by rw [HE.out.1]; decide) (bel_set3 HB10.out (by omega) _ _ _))
                · have HE : Hid (e2E f c sz dz c' sz' dz' = 0 ∧ upL (fun i => tcV f (c == c') (cAt sz dz i) (cAt sz' dz' i)) dz.length = e2V f c sz dz c' sz' dz') := by
                    rw [← HS.out.1, HNe.out]
                    exact p2E_ok H0.out fun i hi => hall i (by rw [← HS.out.1, HNe.out]; exact hi)
                  have Rr10 : Hid (Abx w10 (w.heap.size + 1 + 1) (.bool false) (.slice none 0 0) (.slice none 0 0)) := Rr9.out.go hb
                  have HB10 : Hid (Below w.heap.size w w10) := HB9.out.trans (hb.mono HB9.out.size)
                  have HXY : Hid (NewC w9.heap.size w10 xa (shp sz sz') xc ∧ NewC w9.heap.size w10 ya (e2V f c sz dz c' sz' dz') yc) := ⟨by rw [HS.out.2]; exact hX, by rw [← HE.out.2]; exact hY⟩
                  have zz := Rr9.out.lt
                  clear hb hX hY hall
                  have r0 := Rr10.out.c0
                  have r1 := Rr10.out.c1
                  have r2 := Rr10.out.c2
                  have f0 := Rr10.out.fr 0
                  have f1 := Rr10.out.fr 1
                  have f2 := Rr10.out.fr 2
                  go_wp2_with fail
                  have F := Rr10.out.set3 (.bool false) (.slice xa sz.length xc) (.slice ya dz.length yc)
                  have z0 := F.c0
                  have z1 := F.c1
                  have z2 := F.c2
                  refine bodyPost_ret (v := .tuple #[.agg #[.bool false, .slice xa sz.length xc, .slice ya dz.length yc], .nilIface]) (by simp [results, Try.results11, go_sem, z0, z1, z2]) rfl (.inr ⟨HE.out.1, xa, xc, ya, yc, by rw [e2V_length, HS.out.2, ← HNe.out, HS.out.1], ?_, ?_, bel_set3 HB10.out (by omega) _ _ _⟩)
                  · exact (HXY.out.1.set3 zz _ _ _).low HB9.out.size
                  · exact (HXY.out.2.set3 zz _ _ _).low HB9.out.size
        · have HE : Hid (e2E f c sz dz c' sz' dz' = fitE sz sz') := p2E_err (by rw [HFH.out, if_neg HG.out, if_neg (by simpa using HX.out), if_neg (by simpa using HY.out), if_pos hz]) hz
          have HZ : Hid (fitE sz sz' ≠ 0) := hz
          rw [errV_pos hz]
          clear hz
          have r0 := Rr4.out.c0
          have r1 := Rr4.out.c1
          have r2 := Rr4.out.c2
          have f0 := Rr4.out.fr 0
          have f1 := Rr4.out.fr 1
          have f2 := Rr4.out.fr 2
          go_wp2_with fail
          have F := Rr4.out.set3 (.bool false) (.slice none 0 0) (.slice none 0 0)
          have z0 := F.c0
          have z1 := F.c1
          have z2 := F.c2
          exact bodyPost_ret (v := .tuple #[.agg #[.bool false, .slice none 0 0, .slice none 0 0], .iface 76 (.int .i64 (fitE sz sz'))]) (by simp [results, Try.results11, go_sem, z0, z1, z2]) rfl (P2d.no HE.out (by rw [← HE.out]; exact fun h => HZ.out (HE.out.symm.trans h)) (bel_set3 HB4.out (by omega) _ _ _))
      · have HE : Hid (e2E f c sz dz c' sz' dz' = flawE c' sz' dz') := p2E_err (by rw [HFH.out, if_neg HG.out, if_neg (by simpa using HX.out), if_pos hy]) hy
        have HY : Hid (flawE c' sz' dz' ≠ 0) := hy
        rw [errV_pos hy]
        clear hy
        have r0 := Rr3.out.c0
        have r1 := Rr3.out.c1
        have r2 := Rr3.out.c2
        have f0 := Rr3.out.fr 0
        have f1 := Rr3.out.fr 1
        have f2 := Rr3.out.fr 2
        go_wp2_with fail
        have F := Rr3.out.set3 (.bool false) (.slice none 0 0) (.slice none 0 0)
        have z0 := F.c0
        have z1 := F.c1
        have z2 := F.c2
        exact bodyPost_ret (v := .tuple #[.agg #[.bool false, .slice none 0 0, .slice none 0 0], .iface 76 (.int .i64 (flawE c' sz' dz'))]) (by simp [results, Try.results11, go_sem, z0, z1, z2]) rfl (P2d.no HE.out (by rw [← HE.out]; exact fun h => HY.out (HE.out.symm.trans h)) (bel_set3 HB3.out (by omega) _ _ _))
    · have HE : Hid (e2E f c sz dz c' sz' dz' = flawE c sz dz) := p2E_err (by rw [HFH.out, if_neg HG.out, if_pos hx]) hx
      have HX : Hid (flawE c sz dz ≠ 0) := hx
      rw [errV_pos hx]
      clear hx
      have r0 := Rr2.out.c0
      have r1 := Rr2.out.c1
      have r2 := Rr2.out.c2
      have f0 := Rr2.out.fr 0
      have f1 := Rr2.out.fr 1
      have f2 := Rr2.out.fr 2
      go_wp2_with fail
      have F := Rr2.out.set3 (.bool false) (.slice none 0 0) (.slice none 0 0)
      have z0 := F.c0
      have z1 := F.c1
      have z2 := F.c2
      exact bodyPost_ret (v := .tuple #[.agg #[.bool false, .slice none 0 0, .slice none 0 0], .iface 76 (.int .i64 (flawE c sz dz))]) (by simp [results, Try.results11, go_sem, z0, z1, z2]) rfl (P2d.no HE.out (by rw [← HE.out]; exact fun h => HX.out (HE.out.symm.trans h)) (bel_set3 HB2.out (by omega) _ _ _))
theorem each_two_c : C2c := each_two_d.c
theorem each_two : C2 := each_two_c.plain
end Go.Proofs.Ytgaelbgeoobgiaa
