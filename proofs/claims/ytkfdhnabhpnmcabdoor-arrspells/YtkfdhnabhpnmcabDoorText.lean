/-
  A text's characters, as the program tells them.
-/
import Derived.Lib.OthersKept
import Derived.Laws.RangeString
import Derived.Test.YtkfdhnabhpnmcabDoorShelf
import Derived.Test.YtkfdhnabhpnmcabDoorChecked
import Derived.Test.YtkfdhnabhpnmcabDoorLine
import Derived.Test.YtkfdhnabhpnmcabDoorUtf
namespace Go.Proofs.YtkfdhnabhpnmcabDoor
open Go.RowKit Go.Lib
set_option linter.unusedVariables false

/-- The library's two tables hold what their initialisers lay. -/
def Tabs (w : World) : Prop := Lib.Utf8Tabs (Tryd.laysValid_ren.g 3) (Tryd.laysValid_ren.g 4) w
theorem Tabs.lt {w : World} (h : Tabs w) : Tryd.laysValid_ren.g 3 < w.heap.size ∧ Tryd.laysValid_ren.g 4 < w.heap.size :=
  ⟨World.block_lt_of_cell? w _ (h.1 0 (by decide)), World.block_lt_of_cell? w _ (h.2 0 (by decide)).1⟩
theorem Tabs.go {w w' : World} (h : Tabs w) (hB : Below w.heap.size w w') : Tabs w' :=
  ⟨fun c hc => (hB.cell (p := ⟨_, c, none⟩) h.lt.1).trans (h.1 c hc), fun i hi => ⟨(hB.cell (p := ⟨_, 2 * i, none⟩) h.lt.2).trans (h.2 i hi).1, (hB.cell (p := ⟨_, 2 * i + 1, none⟩) h.lt.2).trans (h.2 i hi).2⟩⟩
theorem Tabs.al {w : World} (h : Tabs w) (o : Obj) : Tabs (w.alloc o) := h.go ((Below.refl _ w).alloc (Nat.le_refl _) o)
theorem Tabs.pos {w : World} (h : Tabs w) : Tryd.laysValid_ren.g 3 < w.heap.size ∧ Tryd.laysValid_ren.g 4 < w.heap.size := h.lt
theorem Tabs.set3 {w : World} {B : Nat} (h : Tabs w) (hB : Tryd.laysValid_ren.g 3 < B ∧ Tryd.laysValid_ren.g 4 < B) (x y z : Value) : Tabs (((w.setCell ⟨B, 0, none⟩ x).setCell ⟨B, 1, none⟩ y).setCell ⟨B, 2, none⟩ z) := by
  have k : ∀ (W : World) (i : Nat) (v : Value) (b o : Nat), b < B → (W.setCell ⟨B, i, none⟩ v).cell? ⟨b, o, none⟩ = W.cell? ⟨b, o, none⟩ := fun W i v b o hb => World.cell?_of_block (Below.heap_setCell W ⟨B, i, none⟩ v b (by show b ≠ B; omega))
  refine ⟨fun c hc => ?_, fun i hi => ⟨?_, ?_⟩⟩
  · rw [k _ _ _ _ _ hB.1, k _ _ _ _ _ hB.1, k _ _ _ _ _ hB.1]; exact h.1 c hc
  · rw [k _ _ _ _ _ hB.2, k _ _ _ _ _ hB.2, k _ _ _ _ _ hB.2]; exact (h.2 i hi).1
  · rw [k _ _ _ _ _ hB.2, k _ _ _ _ _ hB.2, k _ _ _ _ _ hB.2]; exact (h.2 i hi).2
theorem valid_any (s : ByteArray) (w : World) (hs : s.size ≤ 9223372036854775807) (hT : Tabs w) :
    Calls Tryd.prog 7 #[.string s] w fun e w' => e = .returned (.bool (validD (tl s 0))) ∧ Below w.heap.size w w' :=
  Any.utf8_ValidString Tryd.laysValid s w hs hT
/-- The error of a text: 0: none. -/
def txtE (s : ByteArray) : Int := if validD (tl s 0) = false then 6 else if 4096 < (runesL (tl s 0)).length then 7 else 0
theorem own_iter {w : World} {base k : Nat} {e : TypeId} {v : Value} {n : Nat} {xs : List Value} (h : w.ownsRow base e 1 v n xs) (hk : k < base) (s : ByteArray) (pos : Nat) : (w.iterAt k s pos).ownsRow base e 1 v n xs := by
  obtain ⟨hl, hc⟩ := h
  refine ⟨hl, ?_⟩
  rcases hc with hc | ⟨g, cap, cur, h1, h2, hg, hr⟩
  · exact .inl hc
  · exact .inr ⟨g, cap, cur, h1, h2, (Lib.iterAt_other w k g s pos (by omega)).trans hg, hr⟩
/-- What Text tells. -/
def TextP (s : ByteArray) (w : World) (e : Ending) (w' : World) : Prop :=
  (txtE s ≠ 0 ∧ e = .returned (.tuple #[.agg #[.bool false, .slice none 0 0, .slice none 0 0], .iface 33 (.int .i64 (txtE s))]) ∧ Below w.heap.size w w') ∨
  (txtE s = 0 ∧ ∃ xa xc ya yc, e = .returned (.tuple #[.agg #[.bool true, .slice xa 1 xc, .slice ya (runesL (tl s 0)).length yc], .nilIface]) ∧ NewInts w.heap.size w' xa [((runesL (tl s 0)).length : Int)] ∧ NewInts w.heap.size w' ya (runesL (tl s 0)) ∧ Below w.heap.size w w')
theorem TextP.no {s : ByteArray} {w w' : World} {e : Int} (h : txtE s = e) (h0 : e ≠ 0) (hB : Below w.heap.size w w') : TextP s w (.returned (.tuple #[.agg #[.bool false, .slice none 0 0, .slice none 0 0], .iface 33 (.int .i64 e)])) w' := by
  subst h; exact .inl ⟨h0, rfl, hB⟩
set_option maxRecDepth 100000 in
set_option maxHeartbeats 8000000 in
theorem text_any (s : ByteArray) (w : World) (hs : s.size ≤ 9223372036854775807) (hT0 : Tabs w) :
    Calls Tryd.prog 4 #[.string s] w fun e w' => TextP s w e w' := by
  obtain ⟨i0, hi, hz0, hz1, hz2⟩ := info_parts Tryd.infoInt
  have HT : Hid (Tabs (w.alloc (.cells #[.bool false, .slice none 0 0, .slice none 0 0] 24))) := hT0.al _
  clear hT0
  by_cases hv : validD (tl s 0) = true
  · have HV : Hid (validD (tl s 0) = true) := hv
    clear hv
    go_enter Tryd.func4, Tryd.ntmps4
    go_wp2_with fail
    refine (valid_any s _ hs HT.out).mono ?_
    rintro e v1 ⟨rfl, hB1⟩
    rw [HV.out]
    have R1 : Hid (Abx v1 w.heap.size (.bool false) (.slice none 0 0) (.slice none 0 0)) := (Abx.new w _ _ _).go hB1
    have HB1 : Hid (Below w.heap.size w v1) := ((Below.refl _ w).alloc (Nat.le_refl _) _).trans (hB1.mono (by simp))
    clear hB1
    go_wp2_with fail
    go_loopw [4] (fun v wr => ∃ (pos : Nat) (xs : List Int), Hid (Rd s pos xs) ∧ xs.length ≤ 4096 ∧ wr.heap[v1.heap.size]? = some (.stringIter s pos) ∧ wr.ownsRow (v1.heap.size + 1) 3 1 v xs.length (xs.map (Value.int .i64)) ∧ Abx wr w.heap.size (.bool false) (.slice none 0 0) (.slice none 0 0) ∧ v1.heap.size + 1 ≤ wr.heap.size ∧ Below w.heap.size w wr) (fun _ wr => s.size - wr.iterPos v1.heap.size)
    case atStart =>
      refine ⟨0, [], Rd.zero s, by simp, World.iter_heap v1 s 0, World.ownsRow_nil _ _ _ _, R1.out.al _, by simp [World.iter], HB1.out.alloc HB1.out.size _⟩
    case round =>
      obtain ⟨pos, xs, HR, hx4, hit, hown, hA, hsz, hB⟩ := hrel
      have hl1 := R1.out.lt
      by_cases hp : pos < s.size
      · obtain ⟨c, m, hd, hc, hok⟩ := HR.out.step hp HV.out
        have hnx : ∀ ty, (Instr.next (.pointer (some ⟨v1.heap.size, 0, none⟩)) true ty).run Tryd.prog wr = _ := fun ty => Lib.run_next_any_at wr v1.heap.size s pos ty hit hp
        rw [hd] at hnx
        dsimp only at hnx
        have hit2 := Lib.iterAt_heap wr v1.heap.size s pos (pos + (m + 1)) hit
        have hB2 := Lib.below_iterAt hB (k := v1.heap.size) HB1.out.size s (pos + (m + 1))
        have hA2 : Abx (wr.iterAt v1.heap.size s (pos + (m + 1))) w.heap.size (.bool false) (.slice none 0 0) (.slice none 0 0) := hA.of (Lib.iterAt_other wr v1.heap.size w.heap.size s _ (by omega))
        have hown2 := own_iter hown (Nat.lt_succ_self _) s (pos + (m + 1))
        have hsz2 : v1.heap.size + 1 ≤ (wr.iterAt v1.heap.size s (pos + (m + 1))).heap.size := by rw [Lib.iterAt_size]; exact hsz
        have HX : Hid (Rd s (pos + (m + 1)) (xs ++ [(c : Int)])) := HR.out.next hp hok
        have HM : Hid (xs.length < (runesL (tl s 0)).length) := HR.out.more hp
        have HI : Hid (wr.heap[v1.heap.size]? = some (.stringIter s pos)) := hit
        clear hok hd hown hA hit
        obtain ⟨wi, hwi⟩ : ∃ wi, wi = wr.iterAt v1.heap.size s (pos + (m + 1)) := ⟨_, rfl⟩
        rw [← hwi] at hnx hit2 hB2 hA2 hown2 hsz2
        clear hwi
        by_cases hfull : xs.length = 4096
        · have tf : ((xs.length : Int) == 4096) = true := by rw [beq_iff_eq]; omega
          have HE : Hid (txtE s = 7) := by
            show _ = _
            have := HM.out
            unfold txtE
            rw [HV.out, if_neg (by decide), if_pos (by omega)]
          have r0 := hA2.c0
          have r1 := hA2.c1
          have r2 := hA2.c2
          have f0 := hA2.fr 0
          have f1 := hA2.fr 1
          have f2 := hA2.fr 2
          obtain ⟨g, gc, rfl, _⟩ := owns_new hown2
          clear hown2 hfull
          go_wp2_with fail
          have F := hA2.set3 (.bool false) (.slice none 0 0) (.slice none 0 0)
          have q0 := F.c0
          have q1 := F.c1
          have q2 := F.c2
          exact bodyPost_ret (v := .tuple #[.agg #[.bool false, .slice none 0 0, .slice none 0 0], .iface 33 (.int .i64 7)]) (by simp [results, Tryd.results4, go_sem, q0, q1, q2]) rfl (TextP.no HE.out (by decide) (bel_set3 hB2 (Nat.le_refl _) _ _ _))
        · have tf : ((xs.length : Int) == 4096) = false := by rw [beq_eq_false_iff_ne]; omega
          obtain ⟨g, gc, hu4, _⟩ := owns_new hown2
          subst hu4
          go_wp2_with (at_builtin; refine wpList_append_own _ rfl _ _ 22 rfl (v1.heap.size + 1) 3 i0 (.int .i64 0) 1 8 Tryd.underlying22 hi hz0 hz1 hz2 rfl (by decide) _ _ _ rfl (hown2.alloc _) ⟨wi.heap.size, 0, none⟩ 1 1 [.int .i64 (c : Int)] rfl rfl (cell_one_new _ _ _) (fun x hx => by simp at hx; subst hx; rfl) (by unfold maxLen; omega) (by omega) (by simp; omega) ?_; intro v' w3 hown' hgrow3 hnil3)
          have hBg : Below (v1.heap.size + 1) wi w3 := owns_below (Below.refl _ wi) hsz2 hown2 hgrow3
          have hit3 : w3.heap[v1.heap.size]? = some (.stringIter s (pos + (m + 1))) := (hBg.block _ (Nat.lt_succ_self _)).trans hit2
          refine ⟨⟨pos + (m + 1), xs ++ [(c : Int)], HX, by rw [List.length_append]; simp; omega, hit3, ?_, hA2.bel hBg (by omega), by have := hBg.size; omega, hB2.trans (hBg.mono (by omega))⟩, ?_⟩
          · rw [List.length_append, List.map_append]
            exact hown'
          · simp only [World.iterPos, hit3, HI.out]
            omega
      · have hnx : ∀ ty, (Instr.next (.pointer (some ⟨v1.heap.size, 0, none⟩)) true ty).run Tryd.prog wr = _ := fun ty => Lib.run_next_end_at wr v1.heap.size s pos ty hit hp
        have HE : Hid (runesL (tl s 0) = xs) := HR.out.done hp
        have HZ : Hid (txtE s = 0) := by
          show _ = _
          unfold txtE
          rw [HV.out, if_neg (by decide), HE.out, if_neg (by omega)]
        obtain ⟨g, gc, rfl, hN⟩ := owns_new hown
        clear hown
        go_wp2_with fail
        refine (line_any true g gc xs wr).mono ?_
        rintro e w3 ⟨xa, xc, rfl, hX, hB3⟩
        have R4 := hA.go hB3
        have r0 := R4.c0
        have r1 := R4.c1
        have r2 := R4.c2
        have f0 := R4.fr 0
        have f1 := R4.fr 1
        have f2 := R4.fr 2
        go_wp2_with fail
        have F := R4.set3 (.bool true) (.slice xa 1 xc) (.slice g xs.length gc)
        have q0 := F.c0
        have q1 := F.c1
        have q2 := F.c2
        refine bodyPost_ret (v := .tuple #[.agg #[.bool true, .slice xa 1 xc, .slice g xs.length gc], .nilIface]) (by simp [results, Tryd.results4, go_sem, q0, q1, q2]) rfl (.inr ⟨HZ.out, xa, xc, g, gc, by rw [HE.out], ?_, ?_, bel_set3 (hB.trans (hB3.mono hB.size)) (Nat.le_refl _) _ _ _⟩)
        · rw [HE.out]; exact (hX.set3 (by omega) _ _ _).low (by omega)
        · rw [HE.out]; exact ((hN.go hB3).set3 (by omega) _ _ _).low (by omega)
  · have hv' : validD (tl s 0) = false := by simpa using hv
    have HV : Hid (validD (tl s 0) = false) := hv'
    have HE : Hid (txtE s = 6) := by show _ = _; unfold txtE; rw [if_pos hv']
    clear hv hv'
    go_enter Tryd.func4, Tryd.ntmps4
    go_wp2_with fail
    refine (valid_any s _ hs HT.out).mono ?_
    rintro e v1 ⟨rfl, hB1⟩
    rw [HV.out]
    have R1 : Hid (Abx v1 w.heap.size (.bool false) (.slice none 0 0) (.slice none 0 0)) := (Abx.new w _ _ _).go hB1
    have HB1 : Hid (Below w.heap.size w v1) := ((Below.refl _ w).alloc (Nat.le_refl _) _).trans (hB1.mono (by simp))
    clear hB1
    have r0 := R1.out.c0
    have r1 := R1.out.c1
    have r2 := R1.out.c2
    have f0 := R1.out.fr 0
    have f1 := R1.out.fr 1
    have f2 := R1.out.fr 2
    go_wp2_with fail
    have F := R1.out.set3 (.bool false) (.slice none 0 0) (.slice none 0 0)
    have q0 := F.c0
    have q1 := F.c1
    have q2 := F.c2
    exact bodyPost_ret (v := .tuple #[.agg #[.bool false, .slice none 0 0, .slice none 0 0], .iface 33 (.int .i64 6)]) (by simp [results, Tryd.results4, go_sem, q0, q1, q2]) rfl (TextP.no HE.out (by decide) (bel_set3 HB1.out (Nat.le_refl _) _ _ _))
theorem text_no (s : ByteArray) (w : World) (hs : s.size ≤ 9223372036854775807) (hT : Tabs w) (h : txtE s ≠ 0) :
    Calls Tryd.prog 4 #[.string s] w fun e w' => e = .returned (.tuple #[.agg #[.bool false, .slice none 0 0, .slice none 0 0], .iface 33 (.int .i64 (txtE s))]) ∧ Below w.heap.size w w' :=
  (text_any s w hs hT).mono fun e w' h' => h'.elim (fun h1 => h1.2) (fun h1 => absurd h1.1 h)
theorem text_ok (s : ByteArray) (w : World) (hs : s.size ≤ 9223372036854775807) (hT : Tabs w) (h : txtE s = 0) :
    Calls Tryd.prog 4 #[.string s] w fun e w' => ∃ xa xc ya yc, e = .returned (.tuple #[.agg #[.bool true, .slice xa 1 xc, .slice ya (runesL (tl s 0)).length yc], .nilIface]) ∧ NewInts w.heap.size w' xa [((runesL (tl s 0)).length : Int)] ∧ NewInts w.heap.size w' ya (runesL (tl s 0)) ∧ Below w.heap.size w w' :=
  (text_any s w hs hT).mono fun e w' h' => h'.elim (fun h1 => absurd h h1.1) (fun h1 => h1.2)
theorem txtE_zero {s : ByteArray} : txtE s = 0 ↔ validD (tl s 0) = true ∧ (runesL (tl s 0)).length ≤ 4096 := by
  unfold txtE
  cases hv : validD (tl s 0)
  · rw [if_pos rfl]; exact ⟨(fun h => absurd h (by decide)), fun h => absurd h.1 (by decide)⟩
  · rw [if_neg (by decide)]
    split
    · exact ⟨(fun h => absurd h (by decide)), fun h => by omega⟩
    · exact ⟨fun _ => ⟨rfl, by omega⟩, fun _ => rfl⟩
end Go.Proofs.YtkfdhnabhpnmcabDoor
