/-
  The program reads Chars.
-/
import Derived.Laws.DeepStrings4
import Derived.Test.YthfdpfekjcdlbaaDoorLxf
namespace Go.Proofs.YthfdpfekjcdlbaaDoor
open Go.RowKit Go.Lib
set_option linter.unusedVariables false

theorem Bld.go {w w' : World} {B b : Nat} {l : List UInt8} (h : Bld w B b l) (hB : Below w.heap.size w w') : Bld w' B b l := by
  have lt : ∀ {j : Nat} {o : Obj}, w.heap[j]? = some o → j < w.heap.size := fun h => by
    obtain ⟨hlt, _⟩ := Array.getElem?_eq_some_iff.1 h
    exact hlt
  have one : ∀ p : Value, BuilderAtF 58 5 B b p (byteCells l) w → BuilderAtF 58 5 B b p (byteCells l) w' := by
    rintro p ⟨h1, v, h2, ⟨h3, h4⟩, h5⟩
    refine ⟨h1, v, (hB.block b (lt h2)).trans h2, ⟨h3, ?_⟩, h5⟩
    rcases h4 with h4 | ⟨g, cap, cur, fz, e1, e2, e3, e4⟩
    · exact .inl h4
    · exact .inr ⟨g, cap, cur, fz, e1, e2, (hB.block g (lt e3)).trans e3, e4⟩
  rcases h with h | h
  · exact .inl (one _ h)
  · exact .inr (one _ h)
set_option maxRecDepth 100000 in
set_option maxHeartbeats 8000000 in
theorem chars_any17 (s : ByteArray) (i : Nat) (hi : i < s.size) (hs : s.size ≤ 100000) (w : World) (hT : Lib.Utf8Tabs (Tryd.laysValid_ren.g 3) (Tryd.laysValid_ren.g 4) w) :
    Calls Tryd.prog 37 #[.string s, .int .i64 i] w (WdP (chrS (tl s (i + 1))) i w) := by
  have HT : Hid (Lib.Utf8Tabs (Tryd.laysValid_ren.g 3) (Tryd.laysValid_ren.g 4) w) := hT
  clear hT
  have HW : Hid (∀ W, chrS (tl s (i + 1)) = W → ∀ e w', WdP W i w e w' → WdP (chrS (tl s (i + 1))) i w e w') := fun W h e w' h2 => by rw [h]; exact h2
  go_enter Tryd.func37, Tryd.ntmps37
  go_wp2_with fail
  go_loopw [7] (fun v wr => ∃ (p : Nat) (txt : List UInt8), Hid (Qd s i p txt) ∧ v = .int .i64 p ∧ Hid (Bld wr (w.heap.size + 1) (w.heap.size + 1) txt) ∧ Hid (Tbx wr w.heap.size (.int .i64 0) (.int .i64 0) (.int .i64 0) (.string ⟨#[]⟩) (.int .i64 0)) ∧ Hid (w.heap.size + 1 ≤ wr.heap.size) ∧ Hid (Below w.heap.size w wr)) (fun v _ => s.size - (RowKit.intOf v).toNat)
  case atStart =>
    refine ⟨i, [], Qd.zero hi, rfl, ?_, (Tbx.new w _ _ _ _ _).al _, (by show _ ≤ _; simp), ((Below.refl _ w).alloc (Nat.le_refl _) _).alloc (by simp) _⟩
    have := Bld.new (w.alloc (.cells #[.int .i64 0, .int .i64 0, .int .i64 0, .string ⟨#[]⟩, .int .i64 0] 29))
    rw [World.size_alloc] at this
    exact this
  case round =>
    obtain ⟨p, txt, HQ, rfl, HD, HK, HS, HB⟩ := hrel
    obtain ⟨q1, q2, q3, _⟩ := HQ.out
    have hc := Tryd.strings_Index_one (s.extract (p + 1) s.size) 39
    rw [sx_list] at hc
    rcases (by have := indexByte_ge (tl s (p + 1)) 39; omega : indexByte (tl s (p + 1)) 39 = -1 ∨ 0 ≤ indexByte (tl s (p + 1)) 39) with hx | hx
    · have HE : Hid (chrS (tl s (i + 1)) = .bad 1) := HQ.out.no hx
      rw [hx] at hc
      clear hx
      go_wp2_with fail
      refine (hc _).mono ?_
      rintro e w' ⟨rfl, rfl⟩
      go_wp2_with fail
      exact ⟨rfl, HW.out _ HE.out _ _ ⟨HB.out, rfl⟩⟩
    · obtain ⟨k, hk⟩ : ∃ k : Nat, indexByte (tl s (p + 1)) 39 = (k : Int) := ⟨(indexByte (tl s (p + 1)) 39).toNat, by omega⟩
      obtain ⟨k1, KA, KB⟩ := HQ.out.step hk
      rw [hk] at hc
      clear hk hx
      have HA : Hid (hasPrefix (tl s (p + 1 + (k + 1))) [39] = true → Qd s i (p + 1 + (k + 1)) ((txt ++ (tl s (p + 1)).take k) ++ [39])) := KA
      have HZ : Hid (hasPrefix (tl s (p + 1 + (k + 1))) [39] = false → chrS (tl s (i + 1)) = if qbl (txt ++ (tl s (p + 1)).take k) = true then .ok ⟨2, 0, 0, txt ++ (tl s (p + 1)).take k⟩ (p + 1 + (k + 1) - i) else .bad 1) := KB
      clear KA KB
      have hx : (s.extract (p + 1) (p + 1 + k)).data.toList = (tl s (p + 1)).take k := by
        rw [extract_data, Nat.add_sub_cancel_left]; rfl
      have hxs : (s.extract (p + 1) (p + 1 + k)).size = k := by
        rw [size_eq, hx, List.length_take, tl_len]; omega
      have hc2 := Tryd.strings_HasPrefix (s.extract (p + 1 + (k + 1)) s.size) ⟨#[39]⟩
      rw [sx_list] at hc2
      have hc3 := bld_write (l := txt) HD.out
      have HX : Hid ((s.extract (p + 1) (p + 1 + k)).data.toList = (tl s (p + 1)).take k) := hx
      clear hx
      go_wp2_with fail
      refine (hc _).mono ?_
      rintro e w' ⟨rfl, rfl⟩
      go_wp2_with fail
      refine (hc3 _ (by omega) (by rw [hxs]; omega) HS.out).mono ?_
      rintro e w2 ⟨rfl, hD2, hB2⟩
      rw [HX.out] at hD2
      have HD2 : Hid (Bld w2 (w.heap.size + 1) (w.heap.size + 1) (txt ++ (tl s (p + 1)).take k)) := hD2
      have HK2 : Hid (Tbx w2 w.heap.size (.int .i64 0) (.int .i64 0) (.int .i64 0) (.string ⟨#[]⟩) (.int .i64 0)) := HK.out.bel hB2 (Nat.lt_succ_self _)
      have HS2 : Hid (w.heap.size + 1 ≤ w2.heap.size) := Nat.le_trans HS.out hB2.size
      have HB2 : Hid (Below w.heap.size w w2) := HB.out.trans (hB2.mono (Nat.le_succ _))
      clear hD2 hB2 hc hc3
      cases hp : hasPrefix (tl s (p + 1 + (k + 1))) [39]
      · have HV : Hid (chrS (tl s (i + 1)) = if qbl (txt ++ (tl s (p + 1)).take k) = true then .ok ⟨2, 0, 0, txt ++ (tl s (p + 1)).take k⟩ (p + 1 + (k + 1) - i) else .bad 1) := HZ.out hp
        rw [show hasPrefix (tl s (p + 1 + (k + 1))) ((⟨#[39]⟩ : ByteArray).data.toList) = false from hp] at hc2
        clear hp
        have hlen : (txt ++ (tl s (p + 1)).take k).length ≤ s.size := by rw [List.length_append, List.length_take, tl_len]; omega
        generalize txt ++ (tl s (p + 1)).take k = tx at *
        go_wp2_with fail
        refine (hc2 _).mono ?_
        rintro e w' ⟨rfl, rfl⟩
        go_wp2_with fail
        refine (bld_str HD2.out HS2.out).mono ?_
        rintro e w3 ⟨rfl, hD3, hB3⟩
        have HD3 : Hid (Bld w3 (w.heap.size + 1) (w.heap.size + 1) tx) := hD3
        have HK3 : Hid (Tbx w3 w.heap.size (.int .i64 0) (.int .i64 0) (.int .i64 0) (.string ⟨#[]⟩) (.int .i64 0)) := HK2.out.bel hB3 (Nat.lt_succ_self _)
        have HS3 : Hid (w.heap.size + 1 ≤ w3.heap.size) := Nat.le_trans HS2.out hB3.size
        have HB3 : Hid (Below w.heap.size w w3) := HB2.out.trans (hB3.mono (Nat.le_succ _))
        clear hD3 hB3
        go_wp2_with fail
        refine (arec_any ⟨tx.toArray⟩ (by rw [size_mk]; omega) _ (tabs_go HT.out HB3.out)).mono ?_
        rintro e w4 ⟨rfl, hB4⟩
        rw [show tl (⟨tx.toArray⟩ : ByteArray) 0 = tx from rfl]
        have HD4 : Hid (Bld w4 (w.heap.size + 1) (w.heap.size + 1) tx) := HD3.out.go hB4
        have HK4 : Hid (Tbx w4 w.heap.size (.int .i64 0) (.int .i64 0) (.int .i64 0) (.string ⟨#[]⟩) (.int .i64 0)) := HK3.out.go hB4
        have HS4 : Hid (w.heap.size + 1 ≤ w4.heap.size) := Nat.le_trans HS3.out hB4.size
        have HB4 : Hid (Below w.heap.size w w4) := HB3.out.trans (hB4.mono HB3.out.size)
        clear hB4
        cases hq : qbl tx
        · have HE : Hid (chrS (tl s (i + 1)) = .bad 1) := by show _ = _; rw [HV.out, hq]; rfl
          clear hq
          go_wp2_with fail
          exact ⟨rfl, HW.out _ HE.out _ _ ⟨HB4.out, rfl⟩⟩
        · have HE : Hid (chrS (tl s (i + 1)) = .ok ⟨2, 0, 0, tx⟩ (p + 1 + (k + 1) - i)) := by show _ = _; rw [HV.out, if_pos hq]
          clear hq
          go_wp2_with fail
          refine (bld_str HD4.out HS4.out).mono ?_
          rintro e w5 ⟨rfl, hD5, hB5⟩
          have K := HK4.out.bel hB5 (Nat.lt_succ_self _)
          have HB5 : Hid (Below w.heap.size w w5) := HB4.out.trans (hB5.mono (Nat.le_succ _))
          clear hD5 hB5
          have r0 := K.c0
          have r1 := K.c1
          have r2 := K.c2
          have r3 := K.c3
          have r4 := K.c4
          have f0 := K.fr 0
          have f1 := K.fr 1
          have f2 := K.fr 2
          have f3 := K.fr 3
          have f4 := K.fr 4
          go_wp2_with fail
          have F := K.set5 (.int .i64 2) (.int .i64 0) (.int .i64 0) (.string ⟨tx.toArray⟩) (.int .i64 i)
          have q0 := F.c0
          have q1' := F.c1
          have q2' := F.c2
          have q3' := F.c3
          have q4 := F.c4
          refine bodyPost_ret (v := .tuple #[tokV ⟨2, 0, 0, tx⟩ i, .int .i64 ((p : Int) + 1 + ((k : Int) + 1))]) (by simp [results, Tryd.results37, go_sem, tokV, q0, q1', q2', q3', q4]) rfl (HW.out _ HE.out _ _ ⟨bel_set5 HB5.out (Nat.le_refl _) _ _ _ _ _, ?_⟩)
          have e : (p : Int) + 1 + ((k : Int) + 1) = ((i + (p + 1 + (k + 1) - i) : Nat) : Int) := by omega
          rw [e]
      · have HV : Hid (Qd s i (p + 1 + (k + 1)) ((txt ++ (tl s (p + 1)).take k) ++ [39])) := HA.out hp
        rw [show hasPrefix (tl s (p + 1 + (k + 1))) ((⟨#[39]⟩ : ByteArray).data.toList) = true from hp] at hc2
        clear hp
        have hlen : (txt ++ (tl s (p + 1)).take k).length ≤ s.size := by rw [List.length_append, List.length_take, tl_len]; omega
        generalize txt ++ (tl s (p + 1)).take k = tx at *
        go_wp2_with fail
        refine (hc2 _).mono ?_
        rintro e w' ⟨rfl, rfl⟩
        go_wp2_with fail
        refine (bld_write HD2.out _ (by omega) (by decide) HS2.out).mono ?_
        rintro e w3 ⟨rfl, hD3, hB3⟩
        go_wp2_with fail
        refine ⟨⟨p + 1 + (k + 1), tx ++ [39], HV, by rw [Int.natCast_add, Int.natCast_add, Int.natCast_add]; rfl, hD3, HK2.out.bel hB3 (Nat.lt_succ_self _), Nat.le_trans HS2.out hB3.size, HB2.out.trans (hB3.mono (Nat.le_succ _))⟩, ?_⟩
        simp [RowKit.intOf]; omega
end Go.Proofs.YthfdpfekjcdlbaaDoor
