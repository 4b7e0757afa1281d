/-
  What the program finds at each place, one behind the other: its contract over whatever is asked there.
-/
import Derived.Test.YtcpmendkocnlhaaTellp
namespace Go.Proofs.Ytcpmendkocnlhaa
open Go.RowKit
set_option linter.unusedVariables false

set_option maxRecDepth 100000 in
set_option maxHeartbeats 2000000 in
theorem tell_all (c : Bool) (sa : Option Addr) (sc : Nat) (sz : List Int) (da : Option Addr) (dc : Nat) (dz : List Int) (f : Nat) (cs : List Value) (hE : ∀ args w, (callFunc f args).run Try.prog w = .ok (.enter f args) w) (V E : Nat → Int) (h1 : sz.length ≤ 100000) (h2 : dz.length ≤ 4096) (w : World) (hs : IsInts w.heap.size w sa sz)
    (H : ∀ i, i < dz.length → ∀ w', Below w.heap.size w w' → Calls Try.prog f (.int .i64 (i : Nat) :: cs).toArray w' (AskP V E i w')) :
    Calls Try.prog 35 #[.agg #[.bool c, .slice sa sz.length sc, .slice da dz.length dc], .func (.func f) #[] cs.toArray] w (TellQ dz.length V E sz w) := by
  obtain ⟨n, hn⟩ : ∃ n, n = dz.length := ⟨_, rfl⟩
  rw [← hn] at H h2 ⊢
  have HN : Hid (n = dz.length) := hn
  clear hn
  have hmk := run_make_row' (P := Try.prog) 23 3 (.int .i64 0) 8 Try.underlying23 Try.infoInt rfl .i64 .i64 n (by omega) (by omega)
  go_enter Try.func35, Try.ntmps35
  go_wp2_with fail
  clear hmk
  have HS : Hid (IsInts w.heap.size w sa sz) := hs
  clear hs
  have HH : Hid (∀ i, i < n → ∀ w', Below w.heap.size w w' → Calls Try.prog f (.int .i64 (i : Nat) :: cs).toArray w' (AskP V E i w')) := H
  clear H
  go_loopw [16] (fun i wr => ∃ k : Nat, k ≤ n ∧ i = .int .i64 k ∧ (∀ j, j < k → E j = 0) ∧ wr.rowIs (w.heap.size + 2) 3 n (upTo V k) ∧ Abx wr w.heap.size (.bool c) (.slice sa sz.length sc) (.slice da n dc) ∧ Abx wr (w.heap.size + 1) (.bool false) (.slice none 0 0) (.slice none 0 0) ∧ Below w.heap.size w wr) (fun i _ => n - (intOf i).toNat)
  case atStart =>
    refine ⟨0, Nat.zero_le _, rfl, fun j hj => absurd hj (by omega), ?_, ((Abx.new w _ _ _).al _).al _, (Abx.new1 w _ _ _ _).al _, (((Below.refl _ w).alloc (Nat.le_refl _) _).alloc (by simp) _).alloc (by simp; omega) _⟩
    have := World.rowIs_made ((w.alloc (.cells #[.bool c, .slice sa sz.length sc, .slice da n dc] 25)).alloc (.cells #[.bool false, .slice none 0 0, .slice none 0 0] 25)) (.int .i64 0) n 3
    rw [World.size_alloc, World.size_alloc] at this
    exact this.congr (fun j _ => by simp [upTo])
  case round =>
    obtain ⟨k, hk, rfl, hz, hrow, hA, hR, hB⟩ := hrel
    have HZ : Hid (∀ j, j < k → E j = 0) := hz
    clear hz
    have HA : Hid (Abx wr w.heap.size (.bool c) (.slice sa sz.length sc) (.slice da n dc)) := hA
    have HR : Hid (Abx wr (w.heap.size + 1) (.bool false) (.slice none 0 0) (.slice none 0 0)) := hR
    have HB : Hid (Below w.heap.size w wr) := hB
    have HW : Hid (wr.rowIs (w.heap.size + 2) 3 n (upTo V k)) := hrow
    clear hA hR hB hrow
    by_cases hlt : k < n
    · by_cases he : E k = 0
      · have HE : Hid (E k = 0) := he
        clear he
        go_wp2_with fail
        refine (HH.out k hlt wr HB.out).mono ?_
        intro e w1 ha
        obtain ⟨rfl, hb⟩ := ask_ok HE.out ha
        have hrow := row_go HW.out hb
        have c2 := hrow.cell hlt
        have f2 := hrow.frozen k
        have HW1 : Hid (w1.rowIs (w.heap.size + 2) 3 n (upTo V k)) := hrow
        have HB1 : Hid (Below wr.heap.size wr w1) := hb
        clear ha hb hrow
        go_wp2_with fail
        exact ⟨⟨k + 1, by omega, by go_num, allN HZ.out HE.out, upTo_set HW1.out _ rfl, (HA.out.go HB1.out).ot (a := ⟨w.heap.size + 1 + 1, k, none⟩) (by show w.heap.size ≠ w.heap.size + 1 + 1; omega) _, (HR.out.go HB1.out).ot (a := ⟨w.heap.size + 1 + 1, k, none⟩) (by show w.heap.size + 1 ≠ w.heap.size + 1 + 1; omega) _,
          (HB.out.trans (HB1.out.mono HB.out.size)).setCell (p := ⟨w.heap.size + 1 + 1, k, none⟩) (by show w.heap.size ≤ w.heap.size + 1 + 1; omega) _⟩, by simp [intOf]; omega⟩
      · have HE : Hid (E k ≠ 0) := he
        clear he
        go_wp2_with fail
        refine (HH.out k hlt wr HB.out).mono ?_
        intro e w1 ha
        obtain ⟨rfl, hb⟩ := ask_no HE.out ha
        have R4 : Hid (Abx w1 (w.heap.size + 1) (.bool false) (.slice none 0 0) (.slice none 0 0)) := HR.out.go hb
        have HB1 : Hid (Below w.heap.size w w1) := HB.out.trans (hb.mono HB.out.size)
        clear ha hb
        have r0 := R4.out.c0
        have r1 := R4.out.c1
        have r2 := R4.out.c2
        have f0 := R4.out.fr 0
        have f1 := R4.out.fr 1
        have f2 := R4.out.fr 2
        go_wp2_with fail
        have F := R4.out.set3 (.bool false) (.slice none 0 0) (.slice none 0 0)
        have q0 := F.c0
        have q1 := F.c1
        have q2 := F.c2
        exact bodyPost_ret (v := .tuple #[.agg #[.bool false, .slice none 0 0, .slice none 0 0], .iface 67 (.int .i64 (E k))]) (by simp [results, Try.results35, go_sem, q0, q1, q2]) rfl (.inl ⟨k, hlt, HE.out, rfl, bel_set3 HB1.out (by omega) _ _ _⟩)
    · obtain rfl : k = n := by omega
      have c1 := HA.out.c1
      have HX : Hid (NewInts (w.heap.size + 2) wr (some ⟨w.heap.size + 1 + 1, 0, none⟩) (upL V k)) := upTo_new HW.out (Nat.le_refl _) _ (upL_length V k) (fun j hj => upL_nth V k hj)
      obtain ⟨i0, hi, hz0, hz1, hz2⟩ := info_parts Try.infoInt
      have H0 := World.ownsRow_nil wr wr.heap.size 3 1
      cases sa with
      | none =>
        have hz : sz = [] := by
          rcases HS.out with h | ⟨_, _, h, _⟩
          · exact h
          · cases h
        subst hz
        clear H0 hi hz0 hz1 hz2
        have r0 := HR.out.c0
        have r1 := HR.out.c1
        have r2 := HR.out.c2
        have f0 := HR.out.fr 0
        have f1 := HR.out.fr 1
        have f2 := HR.out.fr 2
        go_wp2_with fail
        have F := HR.out.set3 (.bool false) (.slice none 0 0) (.slice (some ⟨w.heap.size + 1 + 1, 0, none⟩) k k)
        have q0 := F.c0
        have q1 := F.c1
        have q2 := F.c2
        exact bodyPost_ret (v := .tuple #[.agg #[.bool false, .slice none 0 0, .slice (some ⟨w.heap.size + 1 + 1, 0, none⟩) k k], .nilIface]) (by simp [results, Try.results35, go_sem, q0, q1, q2]) rfl (.inr ⟨HZ.out, none, 0, some ⟨w.heap.size + 1 + 1, 0, none⟩, k, rfl, ⟨.inl rfl, Nat.le_refl _⟩, ⟨(HX.out.set3 (by omega) _ _ _).low (by omega), by rw [upL_length]; exact Nat.le_refl _⟩, bel_set3 HB.out (by omega) _ _ _⟩)
      | some ad =>
        have hnews := news_of (HS.out.below HB.out)
        go_wp2_with (at_builtin; refine wpList_append_own _ rfl _ _ 23 rfl wr.heap.size 3 i0 (.int .i64 0) 1 8 Try.underlying23 hi hz0 hz1 hz2 rfl (by decide) _ _ _ rfl H0 ad sz.length sc (sz.map (Value.int .i64)) rfl (by simp) hnews (fun x hx => by obtain ⟨y, _, rfl⟩ := List.mem_map.1 hx; rfl) (by unfold maxLen; omega) (by omega) (Nat.le_refl _) ?_; intro v' w3 hown' hgrow3 hnil3; rw [List.nil_append, Nat.zero_add] at hown'; have hB3 : Below wr.heap.size wr w3 := (Below.refl _ wr).grown hgrow3 (Nat.le_refl _) (fun j hj => by cases hj); obtain ⟨g, c3, rfl, hIJ⟩ := own_cap hown'; have HJ : Hid (NewC wr.heap.size w3 g sz c3) := hIJ; have HB3 : Hid (Below wr.heap.size wr w3) := hB3; have R3 : Hid (Abx w3 (w.heap.size + 1) (.bool false) (.slice none 0 0) (.slice none 0 0)) := HR.out.go hB3; clear hown' hgrow3 hnil3 hB3 hIJ; have r0 := R3.out.c0; have r1 := R3.out.c1; have r2 := R3.out.c2; have f0 := R3.out.fr 0; have f1 := R3.out.fr 1; have f2 := R3.out.fr 2)
        have F := R3.out.set3 (.bool false) (.slice g sz.length c3) (.slice (some ⟨w.heap.size + 1 + 1, 0, none⟩) k k)
        have q0 := F.c0
        have q1 := F.c1
        have q2 := F.c2
        have z1 := HR.out.lt
        exact bodyPost_ret (v := .tuple #[.agg #[.bool false, .slice g sz.length c3, .slice (some ⟨w.heap.size + 1 + 1, 0, none⟩) k k], .nilIface]) (by simp [results, Try.results35, go_sem, q0, q1, q2]) rfl (.inr ⟨HZ.out, g, c3, some ⟨w.heap.size + 1 + 1, 0, none⟩, k, rfl, (HJ.out.set3 z1 _ _ _).low HB.out.size, ⟨((HX.out.go HB3.out).set3 (by omega) _ _ _).low (by omega), by rw [upL_length]; exact Nat.le_refl _⟩, bel_set3 (HB.out.trans (HB3.out.mono HB.out.size)) (by omega) _ _ _⟩)
theorem tell_any (c : Bool) (sa : Option Addr) (sc : Nat) (sz : List Int) (da : Option Addr) (dc : Nat) (dz : List Int) (f : Nat) (cs : List Value) (hE : ∀ args w, (callFunc f args).run Try.prog w = .ok (.enter f args) w) (V E : Nat → Int) (h1 : sz.length ≤ 100000) (h2 : dz.length ≤ 4096) (w : World) (hs : IsInts w.heap.size w sa sz)
    (H : ∀ i, i < dz.length → ∀ w', Below w.heap.size w w' → Calls Try.prog f (.int .i64 (i : Nat) :: cs).toArray w' (AskP V E i w')) :
    Calls Try.prog 35 #[.agg #[.bool c, .slice sa sz.length sc, .slice da dz.length dc], .func (.func f) #[] cs.toArray] w (TellP dz.length V E sz w) :=
  (tell_all c sa sc sz da dc dz f cs hE V E h1 h2 w hs H).mono fun e w' h => h.plain
end Go.Proofs.Ytcpmendkocnlhaa
