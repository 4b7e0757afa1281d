/-
  Tellp Tell Equal Two Twos, together.
-/
import Derived.Test.YtnfdcdoelhanlaaBase
import Derived.Test.YtnfdcdoelhanlaaEachp
import Derived.Test.YtnfdcdoelhanlaaTurnq
import Derived.Test.YtnfdcdoelhanlaaCutq
import Derived.Deep.QuietTactic
import Derived.BigQuiet
/-! Tellp: What the program finds at each place, one behind the other: its contract over whatever is asked there. -/
namespace Go.Proofs.Ytnfdcdoelhanlaa
open Go.RowKit
set_option linter.unusedVariables false

/-- The numbers at so many places. -/
def upL (V : Nat → Int) (n : Nat) : List Int := (List.range n).map V
theorem upL_length (V : Nat → Int) (n : Nat) : (upL V n).length = n := by simp [upL]
theorem upL_nth (V : Nat → Int) (n : Nat) {j : Nat} (h : j < n) : nth (upL V n) j = V j := by simp [upL, nth, h]
/-- What is told of so many places. -/
def TellP (n : Nat) (V E : Nat → Int) (sz : List Int) (w : World) (e : Ending) (w' : World) : Prop :=
  (∃ i, i < n ∧ E i ≠ 0 ∧ e = .returned (.tuple #[.agg #[.bool false, .slice none 0 0, .slice none 0 0], .iface 60 (.int .i64 (E i))]) ∧ Below w.heap.size w w') ∨
  ((∀ i, i < n → E i = 0) ∧ ∃ xa xc ya yc, e = .returned (.tuple #[.agg #[.bool false, .slice xa sz.length xc, .slice ya n yc], .nilIface]) ∧ NewC w.heap.size w' xa sz xc ∧ NewInts w.heap.size w' ya (upL V n) ∧ Below w.heap.size w w')
/-- The same, with the room of the numbers. -/
def TellQ (n : Nat) (V E : Nat → Int) (sz : List Int) (w : World) (e : Ending) (w' : World) : Prop :=
  (∃ i, i < n ∧ E i ≠ 0 ∧ e = .returned (.tuple #[.agg #[.bool false, .slice none 0 0, .slice none 0 0], .iface 60 (.int .i64 (E i))]) ∧ Below w.heap.size w w') ∨
  ((∀ i, i < n → E i = 0) ∧ ∃ xa xc ya yc, e = .returned (.tuple #[.agg #[.bool false, .slice xa sz.length xc, .slice ya n yc], .nilIface]) ∧ NewC w.heap.size w' xa sz xc ∧ NewC w.heap.size w' ya (upL V n) yc ∧ Below w.heap.size w w')
theorem TellQ.plain {n : Nat} {V E : Nat → Int} {sz : List Int} {w : World} {e : Ending} {w' : World} (h : TellQ n V E sz w e w') : TellP n V E sz w e w' :=
  h.elim .inl (fun ⟨h0, xa, xc, ya, yc, he, hX, hY, hB⟩ => .inr ⟨h0, xa, xc, ya, yc, he, hX, hY.1, hB⟩)
/-- What is asked at a place. -/
def AskP (V E : Nat → Int) (i : Nat) (w : World) (e : Ending) (w' : World) : Prop := e = .returned (.tuple #[.int .i64 (V i), errV (E i)]) ∧ Below w.heap.size w w'
theorem ask_ok {V E : Nat → Int} {i : Nat} (h : E i = 0) {w w' : World} {e : Ending} (H : AskP V E i w e w') : e = .returned (.tuple #[.int .i64 (V i), .nilIface]) ∧ Below w.heap.size w w' := ⟨by rw [H.1, h]; rfl, H.2⟩
theorem ask_no {V E : Nat → Int} {i : Nat} (h : E i ≠ 0) {w w' : World} {e : Ending} (H : AskP V E i w e w') : e = .returned (.tuple #[.int .i64 (V i), .iface 60 (.int .i64 (E i))]) ∧ Below w.heap.size w w' := ⟨by rw [H.1, errV_pos h], H.2⟩
theorem row_go {w w' : World} {b : Nat} {t : TypeId} {n : Nat} {f : Nat → Value} (h : w.rowIs b t n f) (hB : Below w.heap.size w w') : w'.rowIs b t n f := h.of_block (hB.block b h.lt)
theorem news_of {w : World} {ad : Addr} {zs : List Int} {m : Nat} (hI : IsInts m w (some ad) zs) : ∀ j u, (zs.map (Value.int .i64))[j]? = some u → w.cell? (ad.add j) = some u := by
  intro j u hj
  rw [List.getElem?_map] at hj
  by_cases hl : j < zs.length
  · obtain ⟨b, off, e, hb, hc⟩ := hI.at hl
    cases e
    rw [List.getElem?_eq_getElem hl] at hj
    simp only [Option.map_some] at hj
    obtain rfl := Option.some.inj hj
    rw [← nth_get zs j hl]
    have e : (⟨b, off, none⟩ : Addr).add j = ⟨b, off + j, none⟩ := by
      unfold Addr.add; split
      · rename_i h0; subst h0; rfl
      · rfl
    rw [e]; exact hc j hl
  · rw [List.getElem?_eq_none (by omega)] at hj; cases hj
end Go.Proofs.Ytnfdcdoelhanlaa
/-! Tell: What the program finds at each place, one behind the other: its contract over whatever is asked there. -/
namespace Go.Proofs.Ytnfdcdoelhanlaa
open Go.RowKit
set_option linter.unusedVariables false

set_option maxRecDepth 100000 in
set_option maxHeartbeats 2000000 in
theorem tell_all (c : Bool) (sa : Option Addr) (sc : Nat) (sz : List Int) (da : Option Addr) (dc : Nat) (dz : List Int) (f : Nat) (cs : List Value) (hE : ∀ args w, (callFunc f args).run Try.prog w = .ok (.enter f args) w) (V E : Nat → Int) (h1 : sz.length ≤ 100000) (h2 : dz.length ≤ 4096) (w : World) (hs : IsInts w.heap.size w sa sz)
    (H : ∀ i, i < dz.length → ∀ w', Below w.heap.size w w' → Calls Try.prog f (.int .i64 (i : Nat) :: cs).toArray w' (AskP V E i w')) :
    Calls Try.prog 22 #[.agg #[.bool c, .slice sa sz.length sc, .slice da dz.length dc], .func (.func f) #[] cs.toArray] w (TellQ dz.length V E sz w) := by
  obtain ⟨n, hn⟩ : ∃ n, n = dz.length := ⟨_, rfl⟩
  rw [← hn] at H h2 ⊢
  have HN : Hid (n = dz.length) := hn
  clear hn
  have hmk := run_make_row' (P := Try.prog) 23 3 (.int .i64 0) 8 Try.underlying23 Try.infoInt rfl .i64 .i64 n (by omega) (by omega)
  go_enter Try.func22, Try.ntmps22
  go_wp2_with fail
  clear hmk
  have HS : Hid (IsInts w.heap.size w sa sz) := hs
  clear hs
  have HH : Hid (∀ i, i < n → ∀ w', Below w.heap.size w w' → Calls Try.prog f (.int .i64 (i : Nat) :: cs).toArray w' (AskP V E i w')) := H
  clear H
  go_loopw [16] (fun i wr => ∃ k : Nat, k ≤ n ∧ i = .int .i64 k ∧ (∀ j, j < k → E j = 0) ∧ wr.rowIs (w.heap.size + 2) 3 n (upTo V k) ∧ Abx wr w.heap.size (.bool c) (.slice sa sz.length sc) (.slice da n dc) ∧ Abx wr (w.heap.size + 1) (.bool false) (.slice none 0 0) (.slice none 0 0) ∧ Below w.heap.size w wr) (fun i _ => n - (intOf i).toNat)
  case atStart =>
    refine ⟨0, Nat.zero_le _, rfl, fun j hj => absurd hj (by omega), ?_, ((Abx.new w _ _ _).al _).al _, (Abx.new1 w _ _ _ _).al _, (((Below.refl _ w).alloc (Nat.le_refl _) _).alloc (by simp) _).alloc (by simp; omega) _⟩
    have := World.rowIs_made ((w.alloc (.cells #[.bool c, .slice sa sz.length sc, .slice da n dc] 25)).alloc (.cells #[.bool false, .slice none 0 0, .slice none 0 0] 25)) (.int .i64 0) n 3
    rw [World.size_alloc, World.size_alloc] at this
    exact this.congr (fun j _ => by simp [upTo])
  case round =>
    obtain ⟨k, hk, rfl, hz, hrow, hA, hR, hB⟩ := hrel
    have HZ : Hid (∀ j, j < k → E j = 0) := hz
    clear hz
    have HA : Hid (Abx wr w.heap.size (.bool c) (.slice sa sz.length sc) (.slice da n dc)) := hA
    have HR : Hid (Abx wr (w.heap.size + 1) (.bool false) (.slice none 0 0) (.slice none 0 0)) := hR
    have HB : Hid (Below w.heap.size w wr) := hB
    have HW : Hid (wr.rowIs (w.heap.size + 2) 3 n (upTo V k)) := hrow
    clear hA hR hB hrow
    by_cases hlt : k < n
    · by_cases he : E k = 0
      · have HE : Hid (E k = 0) := he
        clear he
        go_wp2_with fail
        refine (HH.out k hlt wr HB.out).mono ?_
        intro e w1 ha
        obtain ⟨rfl, hb⟩ := ask_ok HE.out ha
        have hrow := row_go HW.out hb
        have c2 := hrow.cell hlt
        have f2 := hrow.frozen k
        have HW1 : Hid (w1.rowIs (w.heap.size + 2) 3 n (upTo V k)) := hrow
        have HB1 : Hid (Below wr.heap.size wr w1) := hb
        clear ha hb hrow
        go_wp2_with fail
        exact ⟨⟨k + 1, by omega, by go_num, allN HZ.out HE.out, upTo_set HW1.out _ rfl, (HA.out.go HB1.out).ot (a := ⟨w.heap.size + 1 + 1, k, none⟩) (by show w.heap.size ≠ w.heap.size + 1 + 1; omega) _, (HR.out.go HB1.out).ot (a := ⟨w.heap.size + 1 + 1, k, none⟩) (by show w.heap.size + 1 ≠ w.heap.size + 1 + 1; omega) _,
          (HB.out.trans (HB1.out.mono HB.out.size)).setCell (p := ⟨w.heap.size + 1 + 1, k, none⟩) (by show w.heap.size ≤ w.heap.size + 1 + 1; omega) _⟩, by simp [intOf]; omega⟩
      · have HE : Hid (E k ≠ 0) := he
        clear he
        go_wp2_with fail
        refine (HH.out k hlt wr HB.out).mono ?_
        intro e w1 ha
        obtain ⟨rfl, hb⟩ := ask_no HE.out ha
        have R4 : Hid (Abx w1 (w.heap.size + 1) (.bool false) (.slice none 0 0) (.slice none 0 0)) := HR.out.go hb
        have HB1 : Hid (Below w.heap.size w w1) := HB.out.trans (hb.mono HB.out.size)
        clear ha hb
        have r0 := R4.out.c0
        have r1 := R4.out.c1
        have r2 := R4.out.c2
        have f0 := R4.out.fr 0
        have f1 := R4.out.fr 1
        have f2 := R4.out.fr 2
        go_wp2_with fail
        have F := R4.out.set3 (.bool false) (.slice none 0 0) (.slice none 0 0)
        have q0 := F.c0
        have q1 := F.c1
        have q2 := F.c2
        exact bodyPost_ret (v := .tuple #[.agg #[.bool false, .slice none 0 0, .slice none 0 0], .iface 60 (.int .i64 (E k))]) (by simp [results, Try.results22, go_sem, q0, q1, q2]) rfl (.inl ⟨k, hlt, HE.out, rfl, bel_set3 HB1.out (by omega) _ _ _⟩)
    · obtain rfl : k = n := by omega
      have c1 := HA.out.c1
      have HX : Hid (NewInts (w.heap.size + 2) wr (some ⟨w.heap.size + 1 + 1, 0, none⟩) (upL V k)) := upTo_new HW.out (Nat.le_refl _) _ (upL_length V k) (fun j hj => upL_nth V k hj)
      obtain ⟨i0, hi, hz0, hz1, hz2⟩ := info_parts Try.infoInt
      have H0 := World.ownsRow_nil wr wr.heap.size 3 1
      cases sa with
      | none =>
        have hz : sz = [] := by
          rcases HS.out with h | ⟨_, _, h, _⟩
          · exact h
          · cases h
        subst hz
        clear H0 hi hz0 hz1 hz2
        have r0 := HR.out.c0
        have r1 := HR.out.c1
        have r2 := HR.out.c2
        have f0 := HR.out.fr 0
        have f1 := HR.out.fr 1
        have f2 := HR.out.fr 2
        go_wp2_with fail
        have F := HR.out.set3 (.bool false) (.slice none 0 0) (.slice (some ⟨w.heap.size + 1 + 1, 0, none⟩) k k)
        have q0 := F.c0
        have q1 := F.c1
        have q2 := F.c2
        exact bodyPost_ret (v := .tuple #[.agg #[.bool false, .slice none 0 0, .slice (some ⟨w.heap.size + 1 + 1, 0, none⟩) k k], .nilIface]) (by simp [results, Try.results22, go_sem, q0, q1, q2]) rfl (.inr ⟨HZ.out, none, 0, some ⟨w.heap.size + 1 + 1, 0, none⟩, k, rfl, ⟨.inl rfl, Nat.le_refl _⟩, ⟨(HX.out.set3 (by omega) _ _ _).low (by omega), by rw [upL_length]; exact Nat.le_refl _⟩, bel_set3 HB.out (by omega) _ _ _⟩)
      | some ad =>
        have hnews := news_of (HS.out.below HB.out)
        go_wp2_with (at_builtin; refine wpList_append_own _ rfl _ _ 23 rfl wr.heap.size 3 i0 (.int .i64 0) 1 8 Try.underlying23 hi hz0 hz1 hz2 rfl (by decide) _ _ _ rfl H0 ad sz.length sc (sz.map (Value.int .i64)) rfl (by simp) hnews (fun x hx => by obtain ⟨y, _, rfl⟩ := List.mem_map.1 hx; rfl) (by unfold maxLen; omega) (by omega) (Nat.le_refl _) ?_; intro v' w3 hown' hgrow3 hnil3; rw [List.nil_append, Nat.zero_add] at hown'; have hB3 : Below wr.heap.size wr w3 := (Below.refl _ wr).grown hgrow3 (Nat.le_refl _) (fun j hj => by cases hj); obtain ⟨g, c3, rfl, hIJ⟩ := own_cap hown'; have HJ : Hid (NewC wr.heap.size w3 g sz c3) := hIJ; have HB3 : Hid (Below wr.heap.size wr w3) := hB3; have R3 : Hid (Abx w3 (w.heap.size + 1) (.bool false) (.slice none 0 0) (.slice none 0 0)) := HR.out.go hB3; clear hown' hgrow3 hnil3 hB3 hIJ; have r0 := R3.out.c0; have r1 := R3.out.c1; have r2 := R3.out.c2; have f0 := R3.out.fr 0; have f1 := R3.out.fr 1; have f2 := R3.out.fr 2)
        have F := R3.out.set3 (.bool false) (.slice g sz.length c3) (.slice (some ⟨w.heap.size + 1 + 1, 0, none⟩) k k)
        have q0 := F.c0
        have q1 := F.c1
        have q2 := F.c2
        have z1 := HR.out.lt
        exact bodyPost_ret (v := .tuple #[.agg #[.bool false, .slice g sz.length c3, .slice (some ⟨w.heap.size + 1 + 1, 0, none⟩) k k], .nilIface]) (by simp [results, Try.results22, go_sem, q0, q1, q2]) rfl (.inr ⟨HZ.out, g, c3, some ⟨w.heap.size + 1 + 1, 0, none⟩, k, rfl, (HJ.out.set3 z1 _ _ _).low HB.out.size, ⟨((HX.out.go HB3.out).set3 (by omega) _ _ _).low (by omega), by rw [upL_length]; exact Nat.le_refl _⟩, bel_set3 (HB.out.trans (HB3.out.mono HB.out.size)) (by omega) _ _ _⟩)
theorem tell_any (c : Bool) (sa : Option Addr) (sc : Nat) (sz : List Int) (da : Option Addr) (dc : Nat) (dz : List Int) (f : Nat) (cs : List Value) (hE : ∀ args w, (callFunc f args).run Try.prog w = .ok (.enter f args) w) (V E : Nat → Int) (h1 : sz.length ≤ 100000) (h2 : dz.length ≤ 4096) (w : World) (hs : IsInts w.heap.size w sa sz)
    (H : ∀ i, i < dz.length → ∀ w', Below w.heap.size w w' → Calls Try.prog f (.int .i64 (i : Nat) :: cs).toArray w' (AskP V E i w')) :
    Calls Try.prog 22 #[.agg #[.bool c, .slice sa sz.length sc, .slice da dz.length dc], .func (.func f) #[] cs.toArray] w (TellP dz.length V E sz w) :=
  (tell_all c sa sc sz da dc dz f cs hE V E h1 h2 w hs H).mono fun e w' h => h.plain
end Go.Proofs.Ytnfdcdoelhanlaa
/-! Equal: Are two lists the same? What the library's slices.Equal tells. -/
namespace Go.Proofs.Ytnfdcdoelhanlaa
open Go.RowKit
set_option linter.unusedVariables false

set_option maxRecDepth 100000 in
set_option maxHeartbeats 1000000 in
theorem equal_any (a : Option Addr) (cap : Nat) (zs : List Int) (a' : Option Addr) (cap' : Nat) (us : List Int) (hreach : zs.length ≤ 9223372036854775807) (n₀ : Nat) (w : World) (hI : IsInts n₀ w a zs) (hI' : IsInts n₀ w a' us) :
    Calls Try.prog 42 #[.slice a zs.length cap, .slice a' us.length cap'] w fun e w' => e = .returned (.bool (eqB zs us)) ∧ ∃ m, w' = w.drewN m := by
  by_cases hlen : zs.length = us.length
  · have hl : ((zs.length : Int) != (us.length : Int)) = false := by simp [hlen]
    have H : Hid (zs.length = us.length) := hlen
    clear hlen
    go_enter Try.func42, Try.ntmps42
    go_wp2_with fail
    go_loopw [13] (fun i wr => ∃ k : Nat, k ≤ zs.length ∧ i = .int .i64 k ∧ (∀ j, j < k → nth zs j = nth us j) ∧ ∃ m, wr = w.drewN m) (fun i _ => zs.length - (intOf i).toNat)
    case atStart => exact ⟨0, Nat.zero_le _, rfl, fun j hj => by omega, 0, rfl⟩
    case round =>
      obtain ⟨k, hk, rfl, hsame, m, rfl⟩ := hrel
      have HS : Hid (∀ j, j < k → nth zs j = nth us j) := hsame
      clear hsame
      by_cases hlt : k < zs.length
      · obtain ⟨b, off, rfl, hb, hcell⟩ := hI.at hlt
        obtain ⟨b', off', rfl, hb', hcell'⟩ := hI'.at (q := k) (by rw [← H.out]; exact hlt)
        have hlt' : k < us.length := by rw [← H.out]; exact hlt
        have hc := hcell k hlt
        have hc' := hcell' k hlt'
        clear hcell hcell'
        by_cases he : nth zs k = nth us k
        · have hne : (nth zs k != nth us k) = false := by simp [he]
          have HE : Hid (nth zs k = nth us k) := he
          clear he
          go_wp2_with fail
          go_quiet (fail)
          go_wp2
          go_roundw
          case rel => exact ⟨k + 1, by omega, by go_num, fun j hj => by by_cases e : j = k; · rw [e]; exact HE.out
                                                                        · exact HS.out j (by omega), _, rfl⟩
          case measure => simp [intOf]; omega
        · have hne : (nth zs k != nth us k) = true := by simp [he]
          have hfin : Hid (eqB zs us = false) := eqB_false (fun e => he (by rw [e]))
          go_wp2_with fail
          go_quiet (fail)
          go_wp2
          go_ret
          exact ⟨ret_bool hfin.out.symm, _, World.drewN_drewN ..⟩
      · obtain rfl : k = zs.length := by omega
        have hfin : Hid (eqB zs us = true) := eqB_true (nth_ext H.out HS.out)
        go_wp2_with fail
        go_ret
        exact ⟨ret_bool hfin.out.symm, m, rfl⟩
  · have hl : ((zs.length : Int) != (us.length : Int)) = true := by simp; omega
    have hfin : Hid (eqB zs us = false) := eqB_false (fun e => hlen (by rw [e]))
    go_enter Try.func42, Try.ntmps42
    go_wp2_with fail
    go_ret
    exact ⟨ret_bool hfin.out.symm, 0, rfl⟩
end Go.Proofs.Ytnfdcdoelhanlaa
/-! Two: What the program tells of two numbers. -/
namespace Go.Proofs.Ytnfdcdoelhanlaa
open Go.RowKit
set_option linter.unusedVariables false

set_option maxHeartbeats 1000000 in
theorem one_if (t : Bool) (w : World) : Calls Try.prog 37 #[.bool t] w fun e w' => e = .returned (.int .i64 (ifV t)) ∧ w' = w := by
  cases t
  · go_enter Try.func37, Try.ntmps37
    go_wp2_with fail
    go_ret
    exact ⟨rfl, rfl⟩
  · go_enter Try.func37, Try.ntmps37
    go_wp2_with fail
    go_ret
    exact ⟨rfl, rfl⟩

set_option maxRecDepth 100000 in
set_option maxHeartbeats 1000000 in
theorem floor_any (a b : Int) (h0 : b ≠ 0) (w : World) : Calls Try.prog 53 #[.int .i64 a, .int .i64 b] w fun e w' => e = .returned (.int .i64 (divV a b)) ∧ Below w.heap.size w w' := by
  have HF : Hid (divV a b = _) := congrArg wrap64 (floor_q a b h0)
  by_cases hm : a.tmod b = 0
  · have HM : Hid (hiB a b = false) := by show _ = _; simp [hiB, hm]
    have hm1 : (a.tmod b != 0) = false := by simp [hm]
    clear hm
    go_enter Try.func53, Try.ntmps53
    go_wp2_with fail
    go_quiet (fail)
    go_wp2_with fail
    go_ret
    exact ⟨ret1 (by rw [HF.out, HM.out]; rfl), bel_drewN (Below.refl _ _) _⟩
  · have hm1 : (a.tmod b != 0) = true := by simp [hm]
    by_cases h1 : a.tmod b < 0
    · have h2 : decide (a.tmod b < 0) = true := by simp [h1]
      by_cases h3 : b < 0
      · have h4 : decide (b < 0) = true := by simp [h3]
        have HM : Hid (hiB a b = false) := by show _ = _; simp [hiB, h1, h3]
        clear hm h1 h3
        go_enter Try.func53, Try.ntmps53
        go_wp2_with fail
        go_quiet (fail)
        go_wp2_with fail
        go_ret
        exact ⟨ret1 (by rw [HF.out, HM.out]; rfl), bel_drewN (Below.refl _ _) _⟩
      · have h4 : decide (b < 0) = false := by simp [h3]
        have HM : Hid (hiB a b = true) := by show _ = _; simp [hiB, h1, h3, hm]
        clear hm h1 h3
        go_enter Try.func53, Try.ntmps53
        go_wp2_with fail
        go_quiet (fail)
        go_wp2_with fail
        go_ret
        exact ⟨ret1 (by rw [HF.out, HM.out, w_subl]; rfl), bel_drewN (Below.refl _ _) _⟩
    · have h2 : decide (a.tmod b < 0) = false := by simp [h1]
      by_cases h3 : b < 0
      · have h4 : decide (b < 0) = true := by simp [h3]
        have HM : Hid (hiB a b = true) := by show _ = _; simp [hiB, h1, h3, hm]
        clear hm h1 h3
        go_enter Try.func53, Try.ntmps53
        go_wp2_with fail
        go_quiet (fail)
        go_wp2_with fail
        go_ret
        exact ⟨ret1 (by rw [HF.out, HM.out, w_subl]; rfl), bel_drewN (Below.refl _ _) _⟩
      · have h4 : decide (b < 0) = false := by simp [h3]
        have HM : Hid (hiB a b = false) := by show _ = _; simp [hiB, h1, h3]
        clear hm h1 h3
        go_enter Try.func53, Try.ntmps53
        go_wp2_with fail
        go_quiet (fail)
        go_wp2_with fail
        go_ret
        exact ⟨ret1 (by rw [HF.out, HM.out]; rfl), bel_drewN (Below.refl _ _) _⟩

set_option maxHeartbeats 1000000 in
theorem quotient_any (a b : Int) (w : World) : Calls Try.prog 35 #[.int .i64 a, .int .i64 b] w fun e w' => e = .returned (.tuple #[.int .i64 (twoV 4 a b), errV (twoE 4 a b)]) ∧ Below w.heap.size w w' := by
  by_cases h0 : b = 0
  · subst h0
    go_enter Try.func35, Try.ntmps35
    go_wp2_with fail
    go_ret2
    exact ⟨ret2 (by simp [twoV]) (by simp [twoE, errV]), Below.refl _ _⟩
  · have H0 : Hid (b ≠ 0) := h0
    have hz : (b == 0) = false := by simp [h0]
    clear h0
    go_enter Try.func35, Try.ntmps35
    go_wp2_with fail
    refine (floor_any a b H0.out w).mono ?_
    rintro e w1 ⟨rfl, hB⟩
    go_wp2_with fail
    go_ret2
    exact ⟨ret2 (tv4 a b H0.out).symm (by rw [te0 (by decide) (by decide) (fun _ => H0.out) (fun h => absurd h (by decide))]; rfl), hB⟩

set_option maxHeartbeats 1000000 in
theorem residue_any (a b : Int) (ha : In64 a) (hb : In64 b) (w : World) : Calls Try.prog 36 #[.int .i64 a, .int .i64 b] w fun e w' => e = .returned (.int .i64 (b.fmod a)) ∧ Below w.heap.size w w' := by
  by_cases h0 : a = 0
  · subst h0
    go_enter Try.func36, Try.ntmps36
    go_wp2_with fail
    go_ret
    exact ⟨ret1 (by simp), Below.refl _ _⟩
  · have H0 : Hid (a ≠ 0) := h0
    have hz : (a == 0) = false := by simp [h0]
    have HE : Hid (wrap64 (b - wrap64 (a * divV b a)) = b.fmod a) := by
      show _ = _
      unfold divV
      rw [w_mulr, w_subr, fmod_is]
      exact (ha.fmod hb).same
    clear h0
    go_enter Try.func36, Try.ntmps36
    go_wp2_with fail
    refine (floor_any b a H0.out w).mono ?_
    rintro e w1 ⟨rfl, hB⟩
    go_wp2_with fail
    go_ret
    exact ⟨ret1 HE.out, hB⟩

/-! ### Powers, by squaring -/
theorem band_one (n : Int) (h : 0 ≤ n) (h2 : n ≤ 9223372036854775807) : Go.bits .and .i64 n 1 = n % 2 := by
  obtain ⟨m, rfl⟩ := Int.eq_ofNat_of_zero_le h
  unfold Go.bits
  simp only [IntWalk.i64_left]
  have e : (BitVec.ofInt (IntKind.i64.bits) (m : Int) &&& BitVec.ofInt (IntKind.i64.bits) 1).toNat = m % 2 := by
    show (BitVec.ofInt 64 (m : Int) &&& BitVec.ofInt 64 1).toNat = m % 2
    rw [BitVec.toNat_and, BitVec.ofInt_natCast, BitVec.toNat_ofNat, Nat.mod_eq_of_lt (by omega)]
    show m &&& 1 = m % 2
    exact Nat.and_one_is_mod m
  rw [e, w_small (by omega) (by omega)]
  rfl
theorem pow_odd (T A B r : Int) (h : 0 ≤ B) (ho : B % 2 = 1) (hr : wrap64 (T * A ^ B.toNat) = r) : wrap64 (wrap64 (T * A) * wrap64 (A * A) ^ (B / 2).toNat) = r := by
  rw [w_mull, ← w_mulr, w_pow, w_mulr, ← hr]
  have e : B.toNat = 2 * (B / 2).toNat + 1 := by omega
  rw [e, Int.pow_succ, Int.pow_mul, show A ^ 2 = A * A from by rw [Int.pow_succ, Int.pow_succ, Int.pow_zero, Int.one_mul]]
  congr 1
  grind
theorem pow_even (T A B r : Int) (h : 0 ≤ B) (ho : B % 2 ≠ 1) (hr : wrap64 (T * A ^ B.toNat) = r) : wrap64 (T * wrap64 (A * A) ^ (B / 2).toNat) = r := by
  rw [← w_mulr, w_pow, w_mulr, ← hr]
  have e : B.toNat = 2 * (B / 2).toNat := by omega
  rw [e, Int.pow_mul, show A ^ 2 = A * A from by rw [Int.pow_succ, Int.pow_succ, Int.pow_zero, Int.one_mul]]
/-- Where the squaring has come to. -/
def Sq (r A B T : Int) : Prop := 0 ≤ B ∧ B ≤ 9223372036854775807 ∧ In64 T ∧ wrap64 (T * A ^ B.toNat) = r
set_option maxRecDepth 100000 in
set_option maxHeartbeats 1000000 in
theorem power_any (a b : Int) (hb : In64 b) (w : World) : Calls Try.prog 38 #[.int .i64 a, .int .i64 b] w fun e w' => e = .returned (.tuple #[.int .i64 (twoV 16 a b), errV (twoE 16 a b)]) ∧ w' = w := by
  by_cases h0 : b < 0
  · have h1 : decide (b < 0) = true := by simp [h0]
    have H0 : Hid (b < 0) := h0
    clear h0
    go_enter Try.func38, Try.ntmps38
    go_wp2_with fail
    go_ret2
    have h0 := H0.out
    exact ⟨ret2 (by simp [twoV, h0]) (by simp [twoE, errV, h0]), rfl⟩
  · have h1 : decide (b < 0) = false := by simp [h0]
    have HE : Hid (powV a b = twoV 16 a b ∧ twoE 16 a b = 0) := ⟨(tv16 a b h0).symm, te0 (by decide) (by decide) (fun h => absurd h (by decide)) (fun _ => h0)⟩
    have HS : Hid (Sq (powV a b) a b 1) := ⟨by omega, hb.2, by unfold In64; decide, by rw [Int.one_mul]; rfl⟩
    clear h0 hb
    go_enter Try.func38, Try.ntmps38
    go_wp2_with fail
    go_loop [0, 1, 6] (fun x y z => ∃ A B T : Int, x = .int .i64 A ∧ y = .int .i64 B ∧ z = .int .i64 T ∧ Hid (Sq (powV a b) A B T)) (fun x y z => (intOf y).toNat)
    case atStart => exact ⟨a, b, 1, rfl, rfl, rfl, HS⟩
    case round =>
      obtain ⟨A, B, T, rfl, rfl, rfl, HR⟩ := hrel
      by_cases hB : 0 < B
      · have t1 : decide (0 < B) = true := by simp [hB]
        have hB2 := HR.out.2.1
        by_cases ho : B % 2 = 1
        · have t2 : (Go.bits .and .i64 B 1 == 1) = true := by rw [band_one B (by omega) hB2]; simp [ho]
          have HN : Hid (Sq (powV a b) (wrap64 (A * A)) (B / 2) (wrap64 (T * A))) := ⟨by omega, by omega, In64.w _, pow_odd T A B _ (by omega) ho HR.out.2.2.2⟩
          clear ho
          go_wp2_with fail
          go_round
          case rel => exact ⟨_, _, _, rfl, rfl, rfl, HN⟩
          case measure => simp [intOf]; omega
        · have t2 : (Go.bits .and .i64 B 1 == 1) = false := by rw [band_one B (by omega) hB2]; simp [ho]
          have HN : Hid (Sq (powV a b) (wrap64 (A * A)) (B / 2) T) := ⟨by omega, by omega, HR.out.2.2.1, pow_even T A B _ (by omega) ho HR.out.2.2.2⟩
          clear ho
          go_wp2_with fail
          go_round
          case rel => exact ⟨_, _, _, rfl, rfl, rfl, HN⟩
          case measure => simp [intOf]; omega
      · have t1 : decide (0 < B) = false := by simp [hB]
        have HZ : Hid (T = powV a b) := by
          show _ = _
          obtain ⟨q1, q2, q3, q4⟩ := HR.out
          obtain rfl : B = 0 := by omega
          rw [← q4]
          simp [q3.same]
        clear hB
        go_wp2_with fail
        go_ret2
        exact ⟨ret2 (by rw [HZ.out, HE.out.1]) (by rw [HE.out.2]; rfl), rfl⟩
end Go.Proofs.Ytnfdcdoelhanlaa
/-! Twos: What the program tells of two numbers, whatever the function: Two. -/
namespace Go.Proofs.Ytnfdcdoelhanlaa
open Go.RowKit
set_option linter.unusedVariables false

set_option maxRecDepth 100000 in
set_option maxHeartbeats 1000000 in
theorem two_1 (a b : Int) (w : World) : Calls Try.prog 17 #[.int .i64 1, .int .i64 a, .int .i64 b] w fun e w' => e = .returned (.tuple #[.int .i64 (twoV 1 a b), errV (twoE 1 a b)]) ∧ Below w.heap.size w w' := by
  go_enter Try.func17, Try.ntmps17
  go_wp2_with fail
  go_ret2
  exact ⟨ret2 (tv1 a b).symm (by rw [te0 (by decide) (by decide) (fun h => absurd h (by decide)) (fun h => absurd h (by decide))]; rfl), Below.refl _ _⟩
set_option maxRecDepth 100000 in
set_option maxHeartbeats 1000000 in
theorem two_2 (a b : Int) (w : World) : Calls Try.prog 17 #[.int .i64 2, .int .i64 a, .int .i64 b] w fun e w' => e = .returned (.tuple #[.int .i64 (twoV 2 a b), errV (twoE 2 a b)]) ∧ Below w.heap.size w w' := by
  go_enter Try.func17, Try.ntmps17
  go_wp2_with fail
  go_ret2
  exact ⟨ret2 (tv2 a b).symm (by rw [te0 (by decide) (by decide) (fun h => absurd h (by decide)) (fun h => absurd h (by decide))]; rfl), Below.refl _ _⟩
set_option maxRecDepth 100000 in
set_option maxHeartbeats 1000000 in
theorem two_3 (a b : Int) (w : World) : Calls Try.prog 17 #[.int .i64 3, .int .i64 a, .int .i64 b] w fun e w' => e = .returned (.tuple #[.int .i64 (twoV 3 a b), errV (twoE 3 a b)]) ∧ Below w.heap.size w w' := by
  go_enter Try.func17, Try.ntmps17
  go_wp2_with fail
  go_ret2
  exact ⟨ret2 (tv3 a b).symm (by rw [te0 (by decide) (by decide) (fun h => absurd h (by decide)) (fun h => absurd h (by decide))]; rfl), Below.refl _ _⟩
set_option maxRecDepth 100000 in
set_option maxHeartbeats 1000000 in
theorem two_4 (a b : Int) (w : World) : Calls Try.prog 17 #[.int .i64 4, .int .i64 a, .int .i64 b] w fun e w' => e = .returned (.tuple #[.int .i64 (twoV 4 a b), errV (twoE 4 a b)]) ∧ Below w.heap.size w w' := by
  go_enter Try.func17, Try.ntmps17
  go_wp2_with fail
  refine (quotient_any a b w).mono ?_
  rintro e w1 ⟨rfl, hB⟩
  go_wp2_with fail
  go_ret2
  exact ⟨rfl, hB⟩
set_option maxRecDepth 100000 in
set_option maxHeartbeats 1000000 in
theorem two_5 (a b : Int) (ha : In64 a) (hb : In64 b) (w : World) : Calls Try.prog 17 #[.int .i64 5, .int .i64 a, .int .i64 b] w fun e w' => e = .returned (.tuple #[.int .i64 (twoV 5 a b), errV (twoE 5 a b)]) ∧ Below w.heap.size w w' := by
  go_enter Try.func17, Try.ntmps17
  go_wp2_with fail
  refine (residue_any a b ha hb w).mono ?_
  rintro e w1 ⟨rfl, hB⟩
  go_wp2_with fail
  go_ret2
  exact ⟨ret2 (tv5 a b).symm (by rw [te0 (by decide) (by decide) (fun h => absurd h (by decide)) (fun h => absurd h (by decide))]; rfl), hB⟩
set_option maxRecDepth 100000 in
set_option maxHeartbeats 1000000 in
theorem two_6 (a b : Int) (w : World) : Calls Try.prog 17 #[.int .i64 6, .int .i64 a, .int .i64 b] w fun e w' => e = .returned (.tuple #[.int .i64 (twoV 6 a b), errV (twoE 6 a b)]) ∧ Below w.heap.size w w' := by
  go_enter Try.func17, Try.ntmps17
  go_wp2_with fail
  all_goals (go_ret2; exact ⟨ret2 (by rw [tv6]; omega) (by rw [te0 (by decide) (by decide) (fun h => absurd h (by decide)) (fun h => absurd h (by decide))]; rfl), Below.refl _ _⟩)
set_option maxRecDepth 100000 in
set_option maxHeartbeats 1000000 in
theorem two_7 (a b : Int) (w : World) : Calls Try.prog 17 #[.int .i64 7, .int .i64 a, .int .i64 b] w fun e w' => e = .returned (.tuple #[.int .i64 (twoV 7 a b), errV (twoE 7 a b)]) ∧ Below w.heap.size w w' := by
  go_enter Try.func17, Try.ntmps17
  go_wp2_with fail
  all_goals (go_ret2; exact ⟨ret2 (by rw [tv7]; omega) (by rw [te0 (by decide) (by decide) (fun h => absurd h (by decide)) (fun h => absurd h (by decide))]; rfl), Below.refl _ _⟩)
set_option maxRecDepth 100000 in
set_option maxHeartbeats 1000000 in
theorem two_8 (a b : Int) (w : World) : Calls Try.prog 17 #[.int .i64 8, .int .i64 a, .int .i64 b] w fun e w' => e = .returned (.tuple #[.int .i64 (twoV 8 a b), errV (twoE 8 a b)]) ∧ Below w.heap.size w w' := by
  go_enter Try.func17, Try.ntmps17
  go_wp2_with fail
  refine (one_if (a == b) w).mono ?_
  rintro e w1 ⟨rfl, rfl⟩
  go_wp2_with fail
  go_ret2
  exact ⟨ret2 (tv8 a b).symm (by rw [te0 (by decide) (by decide) (fun h => absurd h (by decide)) (fun h => absurd h (by decide))]; rfl), Below.refl _ _⟩
set_option maxRecDepth 100000 in
set_option maxHeartbeats 1000000 in
theorem two_9 (a b : Int) (w : World) : Calls Try.prog 17 #[.int .i64 9, .int .i64 a, .int .i64 b] w fun e w' => e = .returned (.tuple #[.int .i64 (twoV 9 a b), errV (twoE 9 a b)]) ∧ Below w.heap.size w w' := by
  go_enter Try.func17, Try.ntmps17
  go_wp2_with fail
  refine (one_if (a != b) w).mono ?_
  rintro e w1 ⟨rfl, rfl⟩
  go_wp2_with fail
  go_ret2
  exact ⟨ret2 (tv9 a b).symm (by rw [te0 (by decide) (by decide) (fun h => absurd h (by decide)) (fun h => absurd h (by decide))]; rfl), Below.refl _ _⟩
set_option maxRecDepth 100000 in
set_option maxHeartbeats 1000000 in
theorem two_10 (a b : Int) (w : World) : Calls Try.prog 17 #[.int .i64 10, .int .i64 a, .int .i64 b] w fun e w' => e = .returned (.tuple #[.int .i64 (twoV 10 a b), errV (twoE 10 a b)]) ∧ Below w.heap.size w w' := by
  go_enter Try.func17, Try.ntmps17
  go_wp2_with fail
  refine (one_if (decide (a < b)) w).mono ?_
  rintro e w1 ⟨rfl, rfl⟩
  go_wp2_with fail
  go_ret2
  exact ⟨ret2 (tv10 a b).symm (by rw [te0 (by decide) (by decide) (fun h => absurd h (by decide)) (fun h => absurd h (by decide))]; rfl), Below.refl _ _⟩
set_option maxRecDepth 100000 in
set_option maxHeartbeats 1000000 in
theorem two_11 (a b : Int) (w : World) : Calls Try.prog 17 #[.int .i64 11, .int .i64 a, .int .i64 b] w fun e w' => e = .returned (.tuple #[.int .i64 (twoV 11 a b), errV (twoE 11 a b)]) ∧ Below w.heap.size w w' := by
  go_enter Try.func17, Try.ntmps17
  go_wp2_with fail
  refine (one_if (decide (a ≤ b)) w).mono ?_
  rintro e w1 ⟨rfl, rfl⟩
  go_wp2_with fail
  go_ret2
  exact ⟨ret2 (tv11 a b).symm (by rw [te0 (by decide) (by decide) (fun h => absurd h (by decide)) (fun h => absurd h (by decide))]; rfl), Below.refl _ _⟩
set_option maxRecDepth 100000 in
set_option maxHeartbeats 1000000 in
theorem two_12 (a b : Int) (w : World) : Calls Try.prog 17 #[.int .i64 12, .int .i64 a, .int .i64 b] w fun e w' => e = .returned (.tuple #[.int .i64 (twoV 12 a b), errV (twoE 12 a b)]) ∧ Below w.heap.size w w' := by
  go_enter Try.func17, Try.ntmps17
  go_wp2_with fail
  refine (one_if (decide (b ≤ a)) w).mono ?_
  rintro e w1 ⟨rfl, rfl⟩
  go_wp2_with fail
  go_ret2
  exact ⟨ret2 (tv12 a b).symm (by rw [te0 (by decide) (by decide) (fun h => absurd h (by decide)) (fun h => absurd h (by decide))]; rfl), Below.refl _ _⟩
set_option maxRecDepth 100000 in
set_option maxHeartbeats 1000000 in
theorem two_13 (a b : Int) (w : World) : Calls Try.prog 17 #[.int .i64 13, .int .i64 a, .int .i64 b] w fun e w' => e = .returned (.tuple #[.int .i64 (twoV 13 a b), errV (twoE 13 a b)]) ∧ Below w.heap.size w w' := by
  go_enter Try.func17, Try.ntmps17
  go_wp2_with fail
  refine (one_if (decide (b < a)) w).mono ?_
  rintro e w1 ⟨rfl, rfl⟩
  go_wp2_with fail
  go_ret2
  exact ⟨ret2 (tv13 a b).symm (by rw [te0 (by decide) (by decide) (fun h => absurd h (by decide)) (fun h => absurd h (by decide))]; rfl), Below.refl _ _⟩
set_option maxRecDepth 100000 in
set_option maxHeartbeats 1000000 in
theorem two_14 (a b : Int) (w : World) : Calls Try.prog 17 #[.int .i64 14, .int .i64 a, .int .i64 b] w fun e w' => e = .returned (.tuple #[.int .i64 (twoV 14 a b), errV (twoE 14 a b)]) ∧ Below w.heap.size w w' := by
  go_enter Try.func17, Try.ntmps17
  go_wp2_with fail
  go_ret2
  exact ⟨ret2 (tv14 a b).symm (by rw [te0 (by decide) (by decide) (fun h => absurd h (by decide)) (fun h => absurd h (by decide))]; rfl), Below.refl _ _⟩
set_option maxRecDepth 100000 in
set_option maxHeartbeats 1000000 in
theorem two_15 (a b : Int) (w : World) : Calls Try.prog 17 #[.int .i64 15, .int .i64 a, .int .i64 b] w fun e w' => e = .returned (.tuple #[.int .i64 (twoV 15 a b), errV (twoE 15 a b)]) ∧ Below w.heap.size w w' := by
  go_enter Try.func17, Try.ntmps17
  go_wp2_with fail
  go_ret2
  exact ⟨ret2 (tv15 a b).symm (by rw [te0 (by decide) (by decide) (fun h => absurd h (by decide)) (fun h => absurd h (by decide))]; rfl), Below.refl _ _⟩
set_option maxRecDepth 100000 in
set_option maxHeartbeats 1000000 in
theorem two_16 (a b : Int) (hb : In64 b) (w : World) : Calls Try.prog 17 #[.int .i64 16, .int .i64 a, .int .i64 b] w fun e w' => e = .returned (.tuple #[.int .i64 (twoV 16 a b), errV (twoE 16 a b)]) ∧ Below w.heap.size w w' := by
  go_enter Try.func17, Try.ntmps17
  go_wp2_with fail
  refine (power_any a b hb w).mono ?_
  rintro e w1 ⟨rfl, hw⟩
  subst hw
  go_wp2_with fail
  go_ret2
  exact ⟨rfl, Below.refl _ _⟩
set_option maxRecDepth 100000 in
set_option maxHeartbeats 1000000 in
theorem two_other (f a b : Int) (hf : f < 1 ∨ 16 < f) (w : World) : Calls Try.prog 17 #[.int .i64 f, .int .i64 a, .int .i64 b] w fun e w' => e = .returned (.tuple #[.int .i64 (twoV f a b), errV (twoE f a b)]) ∧ Below w.heap.size w w' := by
  have HF : Hid (f < 1 ∨ 16 < f) := hf
  have n1 : (f == 1) = false := by simp; omega
  have n2 : (f == 2) = false := by simp; omega
  have n3 : (f == 3) = false := by simp; omega
  have n4 : (f == 4) = false := by simp; omega
  have n5 : (f == 5) = false := by simp; omega
  have n6 : (f == 6) = false := by simp; omega
  have n7 : (f == 7) = false := by simp; omega
  have n8 : (f == 8) = false := by simp; omega
  have n9 : (f == 9) = false := by simp; omega
  have n10 : (f == 10) = false := by simp; omega
  have n11 : (f == 11) = false := by simp; omega
  have n12 : (f == 12) = false := by simp; omega
  have n13 : (f == 13) = false := by simp; omega
  have n14 : (f == 14) = false := by simp; omega
  have n15 : (f == 15) = false := by simp; omega
  have n16 : (f == 16) = false := by simp; omega
  clear hf
  go_enter Try.func17, Try.ntmps17
  go_wp2_with fail
  go_ret2
  have hf := HF.out
  refine ⟨ret2 ?_ (by simp [twoE, errV, hf]), Below.refl _ _⟩
  unfold twoV
  repeat rw [if_neg (by omega)]
theorem two_any (f a b : Int) (ha : In64 a) (hb : In64 b) (w : World) : Calls Try.prog 17 #[.int .i64 f, .int .i64 a, .int .i64 b] w fun e w' => e = .returned (.tuple #[.int .i64 (twoV f a b), errV (twoE f a b)]) ∧ Below w.heap.size w w' := by
  by_cases hf : f < 1 ∨ 16 < f
  · exact two_other f a b hf w
  · rcases (by omega : f = 1 ∨ f = 2 ∨ f = 3 ∨ f = 4 ∨ f = 5 ∨ f = 6 ∨ f = 7 ∨ f = 8 ∨ f = 9 ∨ f = 10 ∨ f = 11 ∨ f = 12 ∨ f = 13 ∨ f = 14 ∨ f = 15 ∨ f = 16) with rfl | rfl | rfl | rfl | rfl | rfl | rfl | rfl | rfl | rfl | rfl | rfl | rfl | rfl | rfl | rfl
    · exact two_1 a b w
    · exact two_2 a b w
    · exact two_3 a b w
    · exact two_4 a b w
    · exact two_5 a b ha hb w
    · exact two_6 a b w
    · exact two_7 a b w
    · exact two_8 a b w
    · exact two_9 a b w
    · exact two_10 a b w
    · exact two_11 a b w
    · exact two_12 a b w
    · exact two_13 a b w
    · exact two_14 a b w
    · exact two_15 a b w
    · exact two_16 a b hb w
end Go.Proofs.Ytnfdcdoelhanlaa
