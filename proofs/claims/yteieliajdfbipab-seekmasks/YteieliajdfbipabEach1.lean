/-
  Tellp Tell Two One Each1, together.
-/
import Derived.Test.YteieliajdfbipabBase
import Derived.Test.YteieliajdfbipabEachp
import Derived.Test.YteieliajdfbipabCapi
import Derived.Test.YteieliajdfbipabCycd
import Derived.Test.YteieliajdfbipabOnem
import Derived.Test.YteieliajdfbipabEachd
/-! Tellp: What the program finds at each place, one behind the other: its contract over whatever is asked there. -/
namespace Go.Proofs.Yteieliajdfbipab
open Go.RowKit
set_option linter.unusedVariables false

/-- The numbers at so many places. -/
def upL (V : Nat → Int) (n : Nat) : List Int := (List.range n).map V
theorem upL_length (V : Nat → Int) (n : Nat) : (upL V n).length = n := by simp [upL]
theorem upL_nth (V : Nat → Int) (n : Nat) {j : Nat} (h : j < n) : nth (upL V n) j = V j := by simp [upL, nth, h]
/-- What is told of so many places. -/
def TellP (n : Nat) (V E : Nat → Int) (sz : List Int) (w : World) (e : Ending) (w' : World) : Prop :=
  (∃ i, i < n ∧ E i ≠ 0 ∧ e = .returned (.tuple #[.agg #[.bool false, .slice none 0 0, .slice none 0 0], .iface 47 (.int .i64 (E i))]) ∧ Below w.heap.size w w') ∨
  ((∀ i, i < n → E i = 0) ∧ ∃ xa xc ya yc, e = .returned (.tuple #[.agg #[.bool false, .slice xa sz.length xc, .slice ya n yc], .nilIface]) ∧ NewC w.heap.size w' xa sz xc ∧ NewInts w.heap.size w' ya (upL V n) ∧ Below w.heap.size w w')
/-- The same, with the room of the numbers. -/
def TellQ (n : Nat) (V E : Nat → Int) (sz : List Int) (w : World) (e : Ending) (w' : World) : Prop :=
  (∃ i, i < n ∧ E i ≠ 0 ∧ e = .returned (.tuple #[.agg #[.bool false, .slice none 0 0, .slice none 0 0], .iface 47 (.int .i64 (E i))]) ∧ Below w.heap.size w w') ∨
  ((∀ i, i < n → E i = 0) ∧ ∃ xa xc ya yc, e = .returned (.tuple #[.agg #[.bool false, .slice xa sz.length xc, .slice ya n yc], .nilIface]) ∧ NewC w.heap.size w' xa sz xc ∧ NewC w.heap.size w' ya (upL V n) yc ∧ Below w.heap.size w w')
theorem TellQ.plain {n : Nat} {V E : Nat → Int} {sz : List Int} {w : World} {e : Ending} {w' : World} (h : TellQ n V E sz w e w') : TellP n V E sz w e w' :=
  h.elim .inl (fun ⟨h0, xa, xc, ya, yc, he, hX, hY, hB⟩ => .inr ⟨h0, xa, xc, ya, yc, he, hX, hY.1, hB⟩)
/-- What is asked at a place. -/
def AskP (V E : Nat → Int) (i : Nat) (w : World) (e : Ending) (w' : World) : Prop := e = .returned (.tuple #[.int .i64 (V i), errV (E i)]) ∧ Below w.heap.size w w'
theorem ask_ok {V E : Nat → Int} {i : Nat} (h : E i = 0) {w w' : World} {e : Ending} (H : AskP V E i w e w') : e = .returned (.tuple #[.int .i64 (V i), .nilIface]) ∧ Below w.heap.size w w' := ⟨by rw [H.1, h]; rfl, H.2⟩
theorem ask_no {V E : Nat → Int} {i : Nat} (h : E i ≠ 0) {w w' : World} {e : Ending} (H : AskP V E i w e w') : e = .returned (.tuple #[.int .i64 (V i), .iface 47 (.int .i64 (E i))]) ∧ Below w.heap.size w w' := ⟨by rw [H.1, errV_pos h], H.2⟩
theorem row_go {w w' : World} {b : Nat} {t : TypeId} {n : Nat} {f : Nat → Value} (h : w.rowIs b t n f) (hB : Below w.heap.size w w') : w'.rowIs b t n f := h.of_block (hB.block b h.lt)
theorem news_of {w : World} {ad : Addr} {zs : List Int} {m : Nat} (hI : IsInts m w (some ad) zs) : ∀ j u, (zs.map (Value.int .i64))[j]? = some u → w.cell? (ad.add j) = some u := by
  intro j u hj
  rw [List.getElem?_map] at hj
  by_cases hl : j < zs.length
  · obtain ⟨b, off, e, hb, hc⟩ := hI.at hl
    cases e
    rw [List.getElem?_eq_getElem hl] at hj
    simp only [Option.map_some] at hj
    obtain rfl := Option.some.inj hj
    rw [← nth_get zs j hl]
    have e : (⟨b, off, none⟩ : Addr).add j = ⟨b, off + j, none⟩ := by
      unfold Addr.add; split
      · rename_i h0; subst h0; rfl
      · rfl
    rw [e]; exact hc j hl
  · rw [List.getElem?_eq_none (by omega)] at hj; cases hj
end Go.Proofs.Yteieliajdfbipab
/-! Tell: What the program finds at each place, one behind the other: its contract over whatever is asked there. -/
namespace Go.Proofs.Yteieliajdfbipab
open Go.RowKit
set_option linter.unusedVariables false

set_option maxRecDepth 100000 in
set_option maxHeartbeats 2000000 in
theorem tell_all (c : Bool) (sa : Option Addr) (sc : Nat) (sz : List Int) (da : Option Addr) (dc : Nat) (dz : List Int) (f : Nat) (cs : List Value) (hE : ∀ args w, (callFunc f args).run Try.prog w = .ok (.enter f args) w) (V E : Nat → Int) (h1 : sz.length ≤ 100000) (h2 : dz.length ≤ 4096) (w : World) (hs : IsInts w.heap.size w sa sz)
    (H : ∀ i, i < dz.length → ∀ w', Below w.heap.size w w' → Calls Try.prog f (.int .i64 (i : Nat) :: cs).toArray w' (AskP V E i w')) :
    Calls Try.prog 27 #[.agg #[.bool c, .slice sa sz.length sc, .slice da dz.length dc], .func (.func f) #[] cs.toArray] w (TellQ dz.length V E sz w) := by
  obtain ⟨n, hn⟩ : ∃ n, n = dz.length := ⟨_, rfl⟩
  rw [← hn] at H h2 ⊢
  have HN : Hid (n = dz.length) := hn
  clear hn
  have hmk := run_make_row' (P := Try.prog) 22 3 (.int .i64 0) 8 Try.underlying22 Try.infoInt rfl .i64 .i64 n (by omega) (by omega)
  go_enter Try.func27, Try.ntmps27
  go_wp2_with fail
  clear hmk
  have HS : Hid (IsInts w.heap.size w sa sz) := hs
  clear hs
  have HH : Hid (∀ i, i < n → ∀ w', Below w.heap.size w w' → Calls Try.prog f (.int .i64 (i : Nat) :: cs).toArray w' (AskP V E i w')) := H
  clear H
  go_loopw [16] (fun i wr => ∃ k : Nat, k ≤ n ∧ i = .int .i64 k ∧ (∀ j, j < k → E j = 0) ∧ wr.rowIs (w.heap.size + 2) 3 n (upTo V k) ∧ Abx wr w.heap.size (.bool c) (.slice sa sz.length sc) (.slice da n dc) ∧ Abx wr (w.heap.size + 1) (.bool false) (.slice none 0 0) (.slice none 0 0) ∧ Below w.heap.size w wr) (fun i _ => n - (intOf i).toNat)
  case atStart =>
    refine ⟨0, Nat.zero_le _, rfl, fun j hj => absurd hj (by omega), ?_, ((Abx.new w _ _ _).al _).al _, (Abx.new1 w _ _ _ _).al _, (((Below.refl _ w).alloc (Nat.le_refl _) _).alloc (by simp) _).alloc (by simp; omega) _⟩
    have := World.rowIs_made ((w.alloc (.cells #[.bool c, .slice sa sz.length sc, .slice da n dc] 24)).alloc (.cells #[.bool false, .slice none 0 0, .slice none 0 0] 24)) (.int .i64 0) n 3
    rw [World.size_alloc, World.size_alloc] at this
    exact this.congr (fun j _ => by simp [upTo])
  case round =>
    obtain ⟨k, hk, rfl, hz, hrow, hA, hR, hB⟩ := hrel
    have HZ : Hid (∀ j, j < k → E j = 0) := hz
    clear hz
    have HA : Hid (Abx wr w.heap.size (.bool c) (.slice sa sz.length sc) (.slice da n dc)) := hA
    have HR : Hid (Abx wr (w.heap.size + 1) (.bool false) (.slice none 0 0) (.slice none 0 0)) := hR
    have HB : Hid (Below w.heap.size w wr) := hB
    have HW : Hid (wr.rowIs (w.heap.size + 2) 3 n (upTo V k)) := hrow
    clear hA hR hB hrow
    by_cases hlt : k < n
    · by_cases he : E k = 0
      · have HE : Hid (E k = 0) := he
        clear he
        go_wp2_with fail
        refine (HH.out k hlt wr HB.out).mono ?_
        intro e w1 ha
        obtain ⟨rfl, hb⟩ := ask_ok HE.out ha
        have hrow := row_go HW.out hb
        have c2 := hrow.cell hlt
        have f2 := hrow.frozen k
        have HW1 : Hid (w1.rowIs (w.heap.size + 2) 3 n (upTo V k)) := hrow
        have HB1 : Hid (Below wr.heap.size wr w1) := hb
        clear ha hb hrow
        go_wp2_with fail
        exact ⟨⟨k + 1, by omega, by go_num, allN HZ.out HE.out, upTo_set HW1.out _ rfl, (HA.out.go HB1.out).ot (a := ⟨w.heap.size + 1 + 1, k, none⟩) (by show w.heap.size ≠ w.heap.size + 1 + 1; omega) _, (HR.out.go HB1.out).ot (a := ⟨w.heap.size + 1 + 1, k, none⟩) (by show w.heap.size + 1 ≠ w.heap.size + 1 + 1; omega) _,
          (HB.out.trans (HB1.out.mono HB.out.size)).setCell (p := ⟨w.heap.size + 1 + 1, k, none⟩) (by show w.heap.size ≤ w.heap.size + 1 + 1; omega) _⟩, by simp [intOf]; omega⟩
      · have HE : Hid (E k ≠ 0) := he
        clear he
        go_wp2_with fail
        refine (HH.out k hlt wr HB.out).mono ?_
        intro e w1 ha
        obtain ⟨rfl, hb⟩ := ask_no HE.out ha
        have R4 : Hid (Abx w1 (w.heap.size + 1) (.bool false) (.slice none 0 0) (.slice none 0 0)) := HR.out.go hb
        have HB1 : Hid (Below w.heap.size w w1) := HB.out.trans (hb.mono HB.out.size)
        clear ha hb
        have r0 := R4.out.c0
        have r1 := R4.out.c1
        have r2 := R4.out.c2
        have f0 := R4.out.fr 0
        have f1 := R4.out.fr 1
        have f2 := R4.out.fr 2
        go_wp2_with fail
        have F := R4.out.set3 (.bool false) (.slice none 0 0) (.slice none 0 0)
        have q0 := F.c0
        have q1 := F.c1
        have q2 := F.c2
        exact bodyPost_ret (v := .tuple #[.agg #[.bool false, .slice none 0 0, .slice none 0 0], .iface 47 (.int .i64 (E k))]) (by simp [results, Try.results27, go_sem, q0, q1, q2]) rfl (.inl ⟨k, hlt, HE.out, rfl, bel_set3 HB1.out (by omega) _ _ _⟩)
    · obtain rfl : k = n := by omega
      have c1 := HA.out.c1
      have HX : Hid (NewInts (w.heap.size + 2) wr (some ⟨w.heap.size + 1 + 1, 0, none⟩) (upL V k)) := upTo_new HW.out (Nat.le_refl _) _ (upL_length V k) (fun j hj => upL_nth V k hj)
      obtain ⟨i0, hi, hz0, hz1, hz2⟩ := info_parts Try.infoInt
      have H0 := World.ownsRow_nil wr wr.heap.size 3 1
      cases sa with
      | none =>
        have hz : sz = [] := by
          rcases HS.out with h | ⟨_, _, h, _⟩
          · exact h
          · cases h
        subst hz
        clear H0 hi hz0 hz1 hz2
        have r0 := HR.out.c0
        have r1 := HR.out.c1
        have r2 := HR.out.c2
        have f0 := HR.out.fr 0
        have f1 := HR.out.fr 1
        have f2 := HR.out.fr 2
        go_wp2_with fail
        have F := HR.out.set3 (.bool false) (.slice none 0 0) (.slice (some ⟨w.heap.size + 1 + 1, 0, none⟩) k k)
        have q0 := F.c0
        have q1 := F.c1
        have q2 := F.c2
        exact bodyPost_ret (v := .tuple #[.agg #[.bool false, .slice none 0 0, .slice (some ⟨w.heap.size + 1 + 1, 0, none⟩) k k], .nilIface]) (by simp [results, Try.results27, go_sem, q0, q1, q2]) rfl (.inr ⟨HZ.out, none, 0, some ⟨w.heap.size + 1 + 1, 0, none⟩, k, rfl, ⟨.inl rfl, Nat.le_refl _⟩, ⟨(HX.out.set3 (by omega) _ _ _).low (by omega), by rw [upL_length]; exact Nat.le_refl _⟩, bel_set3 HB.out (by omega) _ _ _⟩)
      | some ad =>
        have hnews := news_of (HS.out.below HB.out)
        go_wp2_with (at_builtin; refine wpList_append_own _ rfl _ _ 22 rfl wr.heap.size 3 i0 (.int .i64 0) 1 8 Try.underlying22 hi hz0 hz1 hz2 rfl (by decide) _ _ _ rfl H0 ad sz.length sc (sz.map (Value.int .i64)) rfl (by simp) hnews (fun x hx => by obtain ⟨y, _, rfl⟩ := List.mem_map.1 hx; rfl) (by unfold maxLen; omega) (by omega) (Nat.le_refl _) ?_; intro v' w3 hown' hgrow3 hnil3; rw [List.nil_append, Nat.zero_add] at hown'; have hB3 : Below wr.heap.size wr w3 := (Below.refl _ wr).grown hgrow3 (Nat.le_refl _) (fun j hj => by cases hj); obtain ⟨g, c3, rfl, hIJ⟩ := own_cap hown'; have HJ : Hid (NewC wr.heap.size w3 g sz c3) := hIJ; have HB3 : Hid (Below wr.heap.size wr w3) := hB3; have R3 : Hid (Abx w3 (w.heap.size + 1) (.bool false) (.slice none 0 0) (.slice none 0 0)) := HR.out.go hB3; clear hown' hgrow3 hnil3 hB3 hIJ; have r0 := R3.out.c0; have r1 := R3.out.c1; have r2 := R3.out.c2; have f0 := R3.out.fr 0; have f1 := R3.out.fr 1; have f2 := R3.out.fr 2)
        have F := R3.out.set3 (.bool false) (.slice g sz.length c3) (.slice (some ⟨w.heap.size + 1 + 1, 0, none⟩) k k)
        have q0 := F.c0
        have q1 := F.c1
        have q2 := F.c2
        have z1 := HR.out.lt
        exact bodyPost_ret (v := .tuple #[.agg #[.bool false, .slice g sz.length c3, .slice (some ⟨w.heap.size + 1 + 1, 0, none⟩) k k], .nilIface]) (by simp [results, Try.results27, go_sem, q0, q1, q2]) rfl (.inr ⟨HZ.out, g, c3, some ⟨w.heap.size + 1 + 1, 0, none⟩, k, rfl, (HJ.out.set3 z1 _ _ _).low HB.out.size, ⟨((HX.out.go HB3.out).set3 (by omega) _ _ _).low (by omega), by rw [upL_length]; exact Nat.le_refl _⟩, bel_set3 (HB.out.trans (HB3.out.mono HB.out.size)) (by omega) _ _ _⟩)
theorem tell_any (c : Bool) (sa : Option Addr) (sc : Nat) (sz : List Int) (da : Option Addr) (dc : Nat) (dz : List Int) (f : Nat) (cs : List Value) (hE : ∀ args w, (callFunc f args).run Try.prog w = .ok (.enter f args) w) (V E : Nat → Int) (h1 : sz.length ≤ 100000) (h2 : dz.length ≤ 4096) (w : World) (hs : IsInts w.heap.size w sa sz)
    (H : ∀ i, i < dz.length → ∀ w', Below w.heap.size w w' → Calls Try.prog f (.int .i64 (i : Nat) :: cs).toArray w' (AskP V E i w')) :
    Calls Try.prog 27 #[.agg #[.bool c, .slice sa sz.length sc, .slice da dz.length dc], .func (.func f) #[] cs.toArray] w (TellP dz.length V E sz w) :=
  (tell_all c sa sc sz da dc dz f cs hE V E h1 h2 w hs H).mono fun e w' h => h.plain
end Go.Proofs.Yteieliajdfbipab
/-! Two: What the program tells of two numbers. -/
namespace Go.Proofs.Yteieliajdfbipab
open Go.RowKit
set_option linter.unusedVariables false

set_option maxHeartbeats 1000000 in
theorem one_if (t : Bool) (w : World) : Calls Try.prog 35 #[.bool t] w fun e w' => e = .returned (.int .i64 (ifV t)) ∧ w' = w := by
  cases t
  · go_enter Try.func35, Try.ntmps35
    go_wp2_with fail
    go_ret
    exact ⟨rfl, rfl⟩
  · go_enter Try.func35, Try.ntmps35
    go_wp2_with fail
    go_ret
    exact ⟨rfl, rfl⟩

theorem band_one (n : Int) (h : 0 ≤ n) (h2 : n ≤ 9223372036854775807) : Go.bits .and .i64 n 1 = n % 2 := by
  obtain ⟨m, rfl⟩ := Int.eq_ofNat_of_zero_le h
  unfold Go.bits
  simp only [IntWalk.i64_left]
  have e : (BitVec.ofInt (IntKind.i64.bits) (m : Int) &&& BitVec.ofInt (IntKind.i64.bits) 1).toNat = m % 2 := by
    show (BitVec.ofInt 64 (m : Int) &&& BitVec.ofInt 64 1).toNat = m % 2
    rw [BitVec.toNat_and, BitVec.ofInt_natCast, BitVec.toNat_ofNat, Nat.mod_eq_of_lt (by omega)]
    show m &&& 1 = m % 2
    exact Nat.and_one_is_mod m
  rw [e, w_small (by omega) (by omega)]
  rfl
theorem pow_odd (T A B r : Int) (h : 0 ≤ B) (ho : B % 2 = 1) (hr : wrap64 (T * A ^ B.toNat) = r) : wrap64 (wrap64 (T * A) * wrap64 (A * A) ^ (B / 2).toNat) = r := by
  rw [w_mull, ← w_mulr, w_pow, w_mulr, ← hr]
  have e : B.toNat = 2 * (B / 2).toNat + 1 := by omega
  rw [e, Int.pow_succ, Int.pow_mul, show A ^ 2 = A * A from by rw [Int.pow_succ, Int.pow_succ, Int.pow_zero, Int.one_mul]]
  congr 1
  grind
theorem pow_even (T A B r : Int) (h : 0 ≤ B) (ho : B % 2 ≠ 1) (hr : wrap64 (T * A ^ B.toNat) = r) : wrap64 (T * wrap64 (A * A) ^ (B / 2).toNat) = r := by
  rw [← w_mulr, w_pow, w_mulr, ← hr]
  have e : B.toNat = 2 * (B / 2).toNat := by omega
  rw [e, Int.pow_mul, show A ^ 2 = A * A from by rw [Int.pow_succ, Int.pow_succ, Int.pow_zero, Int.one_mul]]
/-- Where the squaring has come to. -/
def Sq (r A B T : Int) : Prop := 0 ≤ B ∧ B ≤ 9223372036854775807 ∧ In64 T ∧ wrap64 (T * A ^ B.toNat) = r
end Go.Proofs.Yteieliajdfbipab
/-! One: What the program tells of one number: One. -/
namespace Go.Proofs.Yteieliajdfbipab
open Go.RowKit
set_option linter.unusedVariables false

theorem ifV_sign (a : Int) : ifV (decide (0 < a)) - ifV (decide (a < 0)) = if a = 0 then 0 else if 0 < a then 1 else -1 := by
  unfold ifV
  by_cases h1 : 0 < a
  · have h2 : ¬ a < 0 := by omega
    have h3 : ¬ a = 0 := by omega
    simp [h1, h2, h3]
  · by_cases h2 : a < 0
    · have h3 : ¬ a = 0 := by omega
      simp [h1, h2, h3]
    · have h3 : a = 0 := by omega
      simp [h3]
set_option maxRecDepth 100000 in
set_option maxHeartbeats 1000000 in
theorem one_1 (a : Int) (w : World) : Calls Try.prog 25 #[.int .i64 1, .int .i64 a] w fun e w' => e = .returned (.tuple #[.int .i64 (oneV 1 a), errV (oneE 1 a)]) ∧ w' = w := by
  go_enter Try.func25, Try.ntmps25
  go_wp2_with fail
  go_ret2
  exact ⟨ret2 (by simp [oneV]) (by simp [oneE, errV]), rfl⟩
set_option maxRecDepth 100000 in
set_option maxHeartbeats 1000000 in
theorem one_2 (a : Int) (w : World) : Calls Try.prog 25 #[.int .i64 2, .int .i64 a] w fun e w' => e = .returned (.tuple #[.int .i64 (oneV 2 a), errV (oneE 2 a)]) ∧ w' = w := by
  go_enter Try.func25, Try.ntmps25
  go_wp2_with fail
  go_ret2
  exact ⟨ret2 (by simp [oneV]) (by simp [oneE, errV]), rfl⟩
set_option maxRecDepth 100000 in
set_option maxHeartbeats 1000000 in
theorem one_3 (a : Int) (w : World) : Calls Try.prog 25 #[.int .i64 3, .int .i64 a] w fun e w' => e = .returned (.tuple #[.int .i64 (oneV 3 a), errV (oneE 3 a)]) ∧ w' = w := by
  have HS : Hid (wrap64 (ifV (decide (0 < a)) - ifV (decide (a < 0))) = if a = 0 then 0 else if 0 < a then 1 else -1) := by
    show _ = _
    rw [ifV_sign]
    refine w_small ?_ ?_ <;> (split; · decide
                              split <;> decide)
  go_enter Try.func25, Try.ntmps25
  go_wp2_with fail
  refine (one_if (decide (0 < a)) w).mono ?_
  rintro e w1 ⟨rfl, rfl⟩
  go_wp2_with fail
  refine (one_if (decide (a < 0)) w1).mono ?_
  rintro e w2 ⟨rfl, rfl⟩
  go_wp2_with fail
  go_ret2
  exact ⟨ret2 (by rw [HS.out]; simp [oneV]) (by simp [oneE, errV]), rfl⟩
set_option maxRecDepth 100000 in
set_option maxHeartbeats 1000000 in
theorem one_5 (a : Int) (ha : In64 a) (w : World) : Calls Try.prog 25 #[.int .i64 5, .int .i64 a] w fun e w' => e = .returned (.tuple #[.int .i64 (oneV 5 a), errV (oneE 5 a)]) ∧ w' = w := by
  have HA : Hid (In64 a) := ha
  clear ha
  go_enter Try.func25, Try.ntmps25
  go_wp2_with fail
  all_goals (go_ret2; have ha := HA.out; exact ⟨ret2 (by unfold oneV In64 at *; simp only [wrap64] at *; grind) (by simp [oneE, errV]), rfl⟩)
set_option maxHeartbeats 1000000 in
theorem not_any (a : Int) (w : World) : Calls Try.prog 36 #[.int .i64 a] w fun e w' => e = .returned (.tuple #[.int .i64 (oneV 17 a), errV (oneE 17 a)]) ∧ w' = w := by
  by_cases h0 : a = 0
  · subst h0
    go_enter Try.func36, Try.ntmps36
    go_wp2_with fail
    go_ret2
    exact ⟨ret2 (by simp [oneV]) (by simp [oneE, errV]), rfl⟩
  · by_cases h1 : a = 1
    · subst h1
      go_enter Try.func36, Try.ntmps36
      go_wp2_with fail
      go_ret2
      exact ⟨ret2 (by simp [oneV]) (by simp [oneE, errV]), rfl⟩
    · have HN : Hid (a ≠ 0 ∧ a ≠ 1) := ⟨h0, h1⟩
      have t0 : (a != 0) = true := by simp [h0]
      have t1 : (a != 1) = true := by simp [h1]
      clear h0 h1
      go_enter Try.func36, Try.ntmps36
      go_wp2_with fail
      go_ret2
      have h := HN.out
      exact ⟨ret2 (by simp [oneV, h.1]) (by simp [oneE, errV, h.1, h.2]), rfl⟩
set_option maxRecDepth 100000 in
set_option maxHeartbeats 1000000 in
theorem one_17 (a : Int) (w : World) : Calls Try.prog 25 #[.int .i64 17, .int .i64 a] w fun e w' => e = .returned (.tuple #[.int .i64 (oneV 17 a), errV (oneE 17 a)]) ∧ w' = w := by
  go_enter Try.func25, Try.ntmps25
  go_wp2_with fail
  refine (not_any a w).mono ?_
  rintro e w1 ⟨rfl, hw⟩
  subst hw
  go_wp2_with fail
  go_ret2
  exact ⟨rfl, rfl⟩
set_option maxRecDepth 100000 in
set_option maxHeartbeats 1000000 in
theorem one_other (f a : Int) (hf : f ≠ 1 ∧ f ≠ 2 ∧ f ≠ 3 ∧ f ≠ 5 ∧ f ≠ 17) (w : World) : Calls Try.prog 25 #[.int .i64 f, .int .i64 a] w fun e w' => e = .returned (.tuple #[.int .i64 (oneV f a), errV (oneE f a)]) ∧ w' = w := by
  have HF : Hid (f ≠ 1 ∧ f ≠ 2 ∧ f ≠ 3 ∧ f ≠ 5 ∧ f ≠ 17) := hf
  have n1 : (f == 1) = false := by simp; omega
  have n2 : (f == 2) = false := by simp; omega
  have n3 : (f == 3) = false := by simp; omega
  have n5 : (f == 5) = false := by simp; omega
  have n17 : (f == 17) = false := by simp; omega
  clear hf
  go_enter Try.func25, Try.ntmps25
  go_wp2_with fail
  go_ret2
  obtain ⟨h1, h2, h3, h5, h17⟩ := HF.out
  exact ⟨ret2 (by simp [oneV, h1, h2, h3, h5, h17]) (by simp [oneE, errV, h1, h2, h3, h5, h17]), rfl⟩
theorem one_any (f a : Int) (ha : In64 a) (w : World) : Calls Try.prog 25 #[.int .i64 f, .int .i64 a] w fun e w' => e = .returned (.tuple #[.int .i64 (oneV f a), errV (oneE f a)]) ∧ w' = w := by
  by_cases hf : f ≠ 1 ∧ f ≠ 2 ∧ f ≠ 3 ∧ f ≠ 5 ∧ f ≠ 17
  · exact one_other f a hf w
  · rcases (by omega : f = 1 ∨ f = 2 ∨ f = 3 ∨ f = 5 ∨ f = 17) with rfl | rfl | rfl | rfl | rfl
    · exact one_1 a w
    · exact one_2 a w
    · exact one_3 a w
    · exact one_5 a ha w
    · exact one_17 a w
end Go.Proofs.Yteieliajdfbipab
/-! Each1: What each.One tells. -/
namespace Go.Proofs.Yteieliajdfbipab
open Go.RowKit
set_option linter.unusedVariables false

theorem mem_nth1 {zs : List Int} {x : Int} (h : x ∈ zs) : ∃ j, j < zs.length ∧ nth zs j = x := by
  obtain ⟨j, hj, rfl⟩ := List.mem_iff_getElem.1 h
  exact ⟨j, hj, nth_get zs j hj⟩
theorem blk_go {w w' : World} {b : Nat} {o : Obj} (h : w.heap[b]? = some o) (hB : Below w.heap.size w w') : w'.heap[b]? = some o := by
  obtain ⟨hlt, _⟩ := Array.getElem?_eq_some_iff.1 h
  exact (hB.block b hlt).trans h
set_option maxRecDepth 100000 in
set_option maxHeartbeats 1000000 in
theorem one1_any (f : Int) (p q : Nat) (c : Bool) (S : Value) (da : Option Addr) (dc : Nat) (dz : List Int) (i : Nat) (hi : i < dz.length) (hl : dz.length ≤ 4096) (w : World) (hp : w.cell? ⟨p, 0, none⟩ = some (.int .i64 f)) (hq : w.cell? ⟨q, 2, none⟩ = some (.slice da dz.length dc)) (m : Nat) (hd : IsInts m w da dz) (T : In64 (nth dz i)) :
    Calls Try.prog 28 #[.int .i64 (i : Nat), .pointer (some ⟨p, 0, none⟩), .pointer (some ⟨q, 0, none⟩)] w (AskP (fun i => oneV f (nth dz i)) (fun i => oneE f (nth dz i)) i w) := by
  obtain ⟨b, off, rfl, hb, hcell⟩ := hd.at hi
  have hc := hcell i hi
  clear hcell hd
  obtain ⟨x, hx⟩ : ∃ x, x = nth dz i := ⟨_, rfl⟩
  have HX : Hid (x = nth dz i) := hx
  rw [← hx] at hc T
  have HT : Hid (In64 x) := T
  clear hx T
  go_enter Try.func28, Try.ntmps28
  go_wp2_with fail
  refine anyT_begin 9 (fun w' => w'.cell? ⟨p, 0, none⟩ = some (.int .i64 f) ∧ w'.cell? ⟨q, 2, none⟩ = some (.slice (some ⟨b, off, none⟩) dz.length dc) ∧ w'.cell? ⟨b, off + i, none⟩ = some (.int .i64 x)) 11 #[false, false, false, false, false, false, false, false, false, false, false] (by kernel_rfl) rfl rfl ?_
  refine anyT_take 0 6 ?rv10 #[true, false, false, false, false, false, false, false, false, false, false] rfl rfl rfl (by kernel_rfl) (by kernel_rfl) (by kernel_rfl) (fun _ _ _ h => h) (by kernel_rfl) (by decide) (by kernel_rfl) ?ry10 (⟨hp, hq, hc⟩) ?rm10
  case ry10 => first | exact Or.inl ⟨by rfl, by intro w' hw'; (try dsimp only at hw'); go_simp; first | done | rfl⟩
  case rm10 =>
  simp only [Act.put, List.setIfInBounds_toArray, List.set_cons_zero, List.set_cons_succ]
  refine anyT_put 1 7 ?rv11 #[true, true, false, false, false, false, false, false, false, false, false] rfl rfl rfl (by kernel_rfl) (by kernel_rfl) (by kernel_rfl) (fun _ _ _ h => h) (by decide) ?ry11 (fun _ => ⟨hp, hq, hc⟩) ?rm11
  case ry11 => first | exact Or.inl ⟨by rfl, by intro w'; go_simp; first | done | rfl⟩
  case rm11 =>
  simp only [Act.put, List.setIfInBounds_toArray, List.set_cons_zero, List.set_cons_succ]
  refine anyT_take 2 8 ?rv12 #[true, true, true, false, false, false, false, false, false, false, false] rfl rfl rfl (by kernel_rfl) (by kernel_rfl) (by kernel_rfl) (fun _ _ _ h => h) (by kernel_rfl) (by decide) (by kernel_rfl) ?ry12 (⟨hp, hq, hc⟩) ?rm12
  case ry12 => first | exact Or.inl ⟨by rfl, by intro w' hw'; (try dsimp only at hw'); go_simp; first | done | rfl⟩
  case rm12 =>
  simp only [Act.put, List.setIfInBounds_toArray, List.set_cons_zero, List.set_cons_succ]
  refine anyT_put 3 9 ?rv13 #[true, true, true, true, false, false, false, false, false, false, false] rfl rfl rfl (by kernel_rfl) (by kernel_rfl) (by kernel_rfl) (fun _ _ _ h => h) (by decide) ?ry13 (fun _ => ⟨hp, hq, hc⟩) ?rm13
  case ry13 => first | exact Or.inl ⟨by rfl, by intro w'; go_simp; first | done | rfl⟩
  case rm13 =>
  simp only [Act.put, List.setIfInBounds_toArray, List.set_cons_zero, List.set_cons_succ]
  refine anyT_put 4 10 ?rv14 #[true, true, true, true, true, false, false, false, false, false, false] rfl rfl rfl (by kernel_rfl) (by kernel_rfl) (by kernel_rfl) (fun _ _ _ h => h) (by decide) ?ry14 (fun _ => ⟨hp, hq, hc⟩) ?rm14
  case ry14 => first | exact Or.inl ⟨by rfl, by intro w'; go_simp; first | done | rfl⟩
  case rm14 =>
  simp only [Act.put, List.setIfInBounds_toArray, List.set_cons_zero, List.set_cons_succ]
  refine anyT_take 5 11 ?rv15 #[true, true, true, true, true, true, false, false, false, false, false] rfl rfl rfl (by kernel_rfl) (by kernel_rfl) (by kernel_rfl) (fun _ _ _ h => h) (by kernel_rfl) (by decide) (by kernel_rfl) ?ry15 (⟨hp, hq, hc⟩) ?rm15
  case ry15 => first | exact Or.inl ⟨by rfl, by intro w' hw'; (try dsimp only at hw'); go_simp; first | done | rfl⟩
  case rm15 =>
  simp only [Act.put, List.setIfInBounds_toArray, List.set_cons_zero, List.set_cons_succ]
  refine anyT_one 6 #[true, true, true, true, true, true, true, false, false, false, false] (by kernel_rfl) rfl rfl (fun K hK => ?_)
  go_simp
  go_wp2_with (go_at_call 25; refine (one_any f x HT.out w.drew).mono ?_; rintro e w2 ⟨rfl, rfl⟩)
  refine hK.out _ _ (fun _ => ⟨hp, hq, hc⟩) ?_
  clear hK K
  refine anyT_put 7 13 ?rv17 #[true, true, true, true, true, true, true, true, false, false, false] rfl rfl rfl (by kernel_rfl) (by kernel_rfl) (by kernel_rfl) (fun _ _ _ h => h) (by decide) ?ry17 (fun _ => ⟨hp, hq, hc⟩) ?rm17
  case ry17 => first | exact Or.inl ⟨by rfl, by intro w'; go_simp; first | done | rfl⟩
  case rm17 =>
  simp only [Act.put, List.setIfInBounds_toArray, List.set_cons_zero, List.set_cons_succ]
  refine anyT_put 8 14 ?rv18 #[true, true, true, true, true, true, true, true, true, false, false] rfl rfl rfl (by kernel_rfl) (by kernel_rfl) (by kernel_rfl) (fun _ _ _ h => h) (by decide) ?ry18 (fun _ => ⟨hp, hq, hc⟩) ?rm18
  case ry18 => first | exact Or.inl ⟨by rfl, by intro w'; go_simp; first | done | rfl⟩
  case rm18 =>
  simp only [Act.put, List.setIfInBounds_toArray, List.set_cons_zero, List.set_cons_succ]
  refine anyT_one 9 #[true, true, true, true, true, true, true, true, true, true, false] (by kernel_rfl) rfl rfl (fun K hK => ?_)
  go_simp
  refine hK.out _ _ (fun h => absurd h (by decide)) ?_
  clear hK K
  refine anyT_one 10 #[true, true, true, true, true, true, true, true, true, true, true] (by kernel_rfl) rfl rfl (fun K hK => ?_)
  go_simp
  refine hK.out _ _ (fun h => absurd h (by decide)) ?_
  clear hK K
  refine anyT_done (by kernel_rfl) ?_
  go_wp2_with fail
  go_ret2
  exact ⟨by rw [HX.out]; rfl, (Below.refl _ w).drew⟩
set_option maxRecDepth 100000 in
set_option maxHeartbeats 2000000 in
theorem each_one_c : C1c := by
  intro f c sa sc sz da dc dz w hf h1 h2 hs hd T
  have HI : Hid (IsInts w.heap.size w sa sz ∧ IsInts w.heap.size w da dz) := ⟨hs, hd⟩
  have HT : Hid (∀ j, In64 (nth dz j)) := T
  obtain ⟨W0, hW0⟩ : ∃ W0, W0 = ((w.alloc (.cells #[.int .i64 f] 33)).alloc (.cells #[.bool c, .slice sa sz.length sc, .slice da dz.length dc] 24)).alloc (.cells #[.bool false, .slice none 0 0, .slice none 0 0] 24) := ⟨_, rfl⟩
  have HB0 : Hid (Below w.heap.size w W0) := by rw [hW0]; exact (((Below.refl _ w).alloc (Nat.le_refl _) _).alloc (by simp) _).alloc (by simp; omega) _
  have B0 : Hid (W0.heap[w.heap.size]? = some (.cells #[.int .i64 f] 33 (0, 0))) := by
    rw [hW0]
    exact ((Below.heap_alloc _ _ w.heap.size (by simp; omega)).trans (Below.heap_alloc _ _ w.heap.size (by simp))).trans (MapKept.heap_alloc w _).1
  have P0 : Hid (Abx W0 (w.heap.size + 1) (.bool c) (.slice sa sz.length sc) (.slice da dz.length dc)) := by rw [hW0]; exact (Abx.new1 w _ _ _ _).al _
  have R0 : Hid (Abx W0 (w.heap.size + 1 + 1) (.bool false) (.slice none 0 0) (.slice none 0 0)) := by
    rw [hW0]
    have := Abx.new1 (w.alloc (.cells #[.int .i64 f] 33)) (.cells #[.bool c, .slice sa sz.length sc, .slice da dz.length dc] 24) (.bool false) (.slice none 0 0) (.slice none 0 0)
    rwa [World.size_alloc] at this
  have HW : Hid (W0 = _) := hW0
  clear hs hd T hW0
  by_cases h0 : oneE f 0 = 0
  · have H0 : Hid (oneE f 0 = 0) := h0
    have V0 : Hid (errV (oneE f 0) = .nilIface) := by show _ = _; rw [h0]; rfl
    clear h0
    by_cases h3 : flawE c sz dz = 0
    · have H3 : Hid (flawE c sz dz = 0) := h3
      have HL : Hid (sz.length ≤ 6 ∧ dz.length ≤ 4096) := flawE_short h3
      clear h3
      go_enter Try.func10, Try.ntmps10
      go_wp2_with fail
      refine (one_any f 0 (by unfold In64; decide) _).mono ?_
      rintro e w1 ⟨rfl, hw⟩
      have hw' : W0 = w1 := HW.out.trans hw.symm
      subst hw'
      rw [V0.out]
      have p0 := P0.out.c0
      have p1 := P0.out.c1
      have p2 := P0.out.c2
      clear hw
      go_wp2_with fail
      refine (check_ok c sa sc sz da dc dz h1 h2 W0 ((HI.out.1.below HB0.out).mono HB0.out.size) ((HI.out.2.below HB0.out).mono HB0.out.size) H3.out).mono ?_
      rintro e w2 ⟨rfl, hC⟩
      have HB2 : Hid (Below w.heap.size w w2) := HB0.out.trans (hC.mono HB0.out.size)
      have B2 : Hid (w2.heap[w.heap.size]? = some (.cells #[.int .i64 f] 33 (0, 0))) := blk_go B0.out hC
      have P2 : Hid (Abx w2 (w.heap.size + 1) (.bool c) (.slice sa sz.length sc) (.slice da dz.length dc)) := P0.out.go hC
      have R2 : Hid (Abx w2 (w.heap.size + 1 + 1) (.bool false) (.slice none 0 0) (.slice none 0 0)) := R0.out.go hC
      clear hC p0 p1 p2 HW B0 P0 R0 HB0 V0
      have p0 := P2.out.c0
      have p1 := P2.out.c1
      have p2 := P2.out.c2
      cases c with
      | true =>
        have HE : Hid (e1E f true sz dz = 6) := by show _ = _; unfold e1E; rw [if_neg (by simpa using H0.out), if_neg (by simpa using H3.out), if_pos rfl]
        have r0 := R2.out.c0
        have r1 := R2.out.c1
        have r2 := R2.out.c2
        have f0 := R2.out.fr 0
        have f1 := R2.out.fr 1
        have f2 := R2.out.fr 2
        go_wp2_with fail
        have F := R2.out.set3 (.bool false) (.slice none 0 0) (.slice none 0 0)
        have q0 := F.c0
        have q1 := F.c1
        have q2 := F.c2
        exact bodyPost_ret (v := .tuple #[.agg #[.bool false, .slice none 0 0, .slice none 0 0], .iface 47 (.int .i64 6)]) (by simp [results, Try.results10, go_sem, q0, q1, q2]) rfl (P1c.no HE.out (by decide) (bel_set3 HB2.out (by omega) _ _ _))
      | false =>
        have H : ∀ i, i < dz.length → ∀ w', Below w2.heap.size w2 w' → Calls Try.prog 28 (.int .i64 (i : Nat) :: [.pointer (some ⟨w.heap.size, 0, none⟩), .pointer (some ⟨w.heap.size + 1, 0, none⟩)]).toArray w' (AskP (fun i => oneV f (nth dz i)) (fun i => oneE f (nth dz i)) i w') := fun i hi w' hB =>
          one1_any f _ _ false (.slice none 0 0) da dc dz i hi HL.out.2 w' (cell_of_one (blk_go B2.out hB)) (P2.out.go hB).c2 w.heap.size (HI.out.2.below (HB2.out.trans (hB.mono HB2.out.size))) (HT.out i)
        have HH : Hid (_) := H
        clear H
        go_wp2_with fail
        refine (tell_all false sa sc sz da dc dz 28 [.pointer (some ⟨w.heap.size, 0, none⟩), .pointer (some ⟨w.heap.size + 1, 0, none⟩)] (enters_of Try.func28 (by kernel_rfl) rfl) _ _ (by have := HL.out.1; omega) HL.out.2 w2 ((HI.out.1.below HB2.out).mono HB2.out.size) HH.out).mono ?_
        rintro e w3 (⟨i, hi, hne, rfl, hb⟩ | ⟨hall, xa, xc, ya, yc, rfl, hX, hY, hb⟩)
        · have HE : Hid (oneE f (nth dz i) = 6 ∧ e1E f false sz dz = 6) := by
            refine ⟨(oneE_cell H0.out _).resolve_left hne, ?_⟩
            unfold e1E
            rw [if_neg (by simpa using H0.out), if_neg (by simpa using H3.out), if_neg (by decide), if_neg]
            intro h
            exact hne (by simpa using List.all_eq_true.1 h _ (nth_mem dz i hi))
          have R3 : Hid (Abx w3 (w.heap.size + 1 + 1) (.bool false) (.slice none 0 0) (.slice none 0 0)) := R2.out.go hb
          have HB3 : Hid (Below w.heap.size w w3) := HB2.out.trans (hb.mono HB2.out.size)
          clear hb hne p0 p1 p2
          have r0 := R3.out.c0
          have r1 := R3.out.c1
          have r2 := R3.out.c2
          have f0 := R3.out.fr 0
          have f1 := R3.out.fr 1
          have f2 := R3.out.fr 2
          go_wp2_with fail
          have F := R3.out.set3 (.bool false) (.slice none 0 0) (.slice none 0 0)
          have q0 := F.c0
          have q1 := F.c1
          have q2 := F.c2
          exact bodyPost_ret (v := .tuple #[.agg #[.bool false, .slice none 0 0, .slice none 0 0], .iface 47 (.int .i64 (oneE f (nth dz i)))]) (by simp [results, Try.results10, go_sem, q0, q1, q2]) rfl (P1c.no (HE.out.2.trans HE.out.1.symm) (by rw [HE.out.1]; decide) (bel_set3 HB3.out (by omega) _ _ _))
        · have HE : Hid (e1E f false sz dz = 0 ∧ e1V f dz = upL (fun i => oneV f (nth dz i)) dz.length) := by
            constructor
            · unfold e1E
              rw [if_neg (by simpa using H0.out), if_neg (by simpa using H3.out), if_neg (by decide), if_pos]
              refine List.all_eq_true.2 fun x hx => ?_
              obtain ⟨j, hj, rfl⟩ := mem_nth1 hx
              simpa using hall j hj
            · exact nth_ext (by rw [e1V_length, upL_length]) fun j hj => by rw [e1V_length] at hj; rw [e1V_nth f dz hj, upL_nth _ _ hj]
          have R3 : Hid (Abx w3 (w.heap.size + 1 + 1) (.bool false) (.slice none 0 0) (.slice none 0 0)) := R2.out.go hb
          have HB3 : Hid (Below w.heap.size w w3) := HB2.out.trans (hb.mono HB2.out.size)
          have HX : Hid (NewC w2.heap.size w3 xa sz xc ∧ NewC w2.heap.size w3 ya (e1V f dz) yc) := ⟨hX, by rw [HE.out.2]; exact hY⟩
          have z := R2.out.lt
          clear hb hX hY hall p0 p1 p2
          have r0 := R3.out.c0
          have r1 := R3.out.c1
          have r2 := R3.out.c2
          have f0 := R3.out.fr 0
          have f1 := R3.out.fr 1
          have f2 := R3.out.fr 2
          go_wp2_with fail
          have F := R3.out.set3 (.bool false) (.slice xa sz.length xc) (.slice ya dz.length yc)
          have q0 := F.c0
          have q1 := F.c1
          have q2 := F.c2
          refine bodyPost_ret (v := .tuple #[.agg #[.bool false, .slice xa sz.length xc, .slice ya dz.length yc], .nilIface]) (by simp [results, Try.results10, go_sem, q0, q1, q2]) rfl (.inr ⟨HE.out.1, xa, xc, ya, yc, by rw [e1V_length], ?_, ?_, bel_set3 HB3.out (by omega) _ _ _⟩)
          · exact (HX.out.1.set3 z _ _ _).low HB2.out.size
          · exact (HX.out.2.set3 z _ _ _).low HB2.out.size
    · have H3 : Hid (flawE c sz dz ≠ 0) := h3
      have HE : Hid (e1E f c sz dz = flawE c sz dz) := by show _ = _; unfold e1E; rw [if_neg (by simpa using H0.out), if_pos h3]
      clear h3
      go_enter Try.func10, Try.ntmps10
      go_wp2_with fail
      refine (one_any f 0 (by unfold In64; decide) _).mono ?_
      rintro e w1 ⟨rfl, hw⟩
      have hw' : W0 = w1 := HW.out.trans hw.symm
      subst hw'
      rw [V0.out]
      have p0 := P0.out.c0
      have p1 := P0.out.c1
      have p2 := P0.out.c2
      clear hw
      go_wp2_with fail
      refine (check_no c sa sc sz da dc dz h1 h2 W0 ((HI.out.1.below HB0.out).mono HB0.out.size) ((HI.out.2.below HB0.out).mono HB0.out.size) H3.out).mono ?_
      rintro e w2 ⟨rfl, hC⟩
      have HB2 : Hid (Below w.heap.size w w2) := HB0.out.trans (hC.mono HB0.out.size)
      have R2 : Hid (Abx w2 (w.heap.size + 1 + 1) (.bool false) (.slice none 0 0) (.slice none 0 0)) := R0.out.go hC
      clear hC p0 p1 p2
      have r0 := R2.out.c0
      have r1 := R2.out.c1
      have r2 := R2.out.c2
      have f0 := R2.out.fr 0
      have f1 := R2.out.fr 1
      have f2 := R2.out.fr 2
      go_wp2_with fail
      have F := R2.out.set3 (.bool false) (.slice none 0 0) (.slice none 0 0)
      have q0 := F.c0
      have q1 := F.c1
      have q2 := F.c2
      exact bodyPost_ret (v := .tuple #[.agg #[.bool false, .slice none 0 0, .slice none 0 0], .iface 47 (.int .i64 (flawE c sz dz))]) (by simp [results, Try.results10, go_sem, q0, q1, q2]) rfl (P1c.no HE.out H3.out (bel_set3 HB2.out (by omega) _ _ _))
  · have H0 : Hid (oneE f 0 ≠ 0) := h0
    have HE : Hid (e1E f c sz dz = oneE f 0) := by show _ = _; unfold e1E; rw [if_pos h0]
    have V0 : Hid (errV (oneE f 0) = .iface 47 (.int .i64 (oneE f 0))) := errV_pos h0
    clear h0
    go_enter Try.func10, Try.ntmps10
    go_wp2_with fail
    refine (one_any f 0 (by unfold In64; decide) _).mono ?_
    rintro e w1 ⟨rfl, hw⟩
    have hw' : W0 = w1 := HW.out.trans hw.symm
    subst hw'
    rw [V0.out]
    clear hw
    have r0 := R0.out.c0
    have r1 := R0.out.c1
    have r2 := R0.out.c2
    have f0 := R0.out.fr 0
    have f1 := R0.out.fr 1
    have f2 := R0.out.fr 2
    go_wp2_with fail
    have F := R0.out.set3 (.bool false) (.slice none 0 0) (.slice none 0 0)
    have q0 := F.c0
    have q1 := F.c1
    have q2 := F.c2
    exact bodyPost_ret (v := .tuple #[.agg #[.bool false, .slice none 0 0, .slice none 0 0], .iface 47 (.int .i64 (oneE f 0))]) (by simp [results, Try.results10, go_sem, q0, q1, q2]) rfl (P1c.no HE.out H0.out (bel_set3 HB0.out (by omega) _ _ _))
theorem each_one : C1 := each_one_c.plain
end Go.Proofs.Yteieliajdfbipab
