/-
  The reference reads Chars.
-/
import Derived.Test.YthfdpfekjcdlbaaGreatDoorLyb
namespace Go.Proofs.YthfdpfekjcdlbaaGreatDoor
open Go.RowKit Go.Lib
set_option linter.unusedVariables false

def tokZ : Value := .agg #[.int .i64 0, .int .i64 0, .int .i64 0, .string ⟨#[]⟩, .int .i64 0]
/-- What the reference tells of a word. -/
def RwP (W : Wd) (i : Nat) (w : World) (e : Ending) (w' : World) : Prop :=
  Below w.heap.size w w' ∧ match W with
    | Except.ok (t, n) => e = .returned (.tuple #[tokV t i, .int .i64 ((i + n : Nat) : Int), .int .i64 0])
    | Except.error c => e = .returned (.tuple #[tokZ, .int .i64 0, .int .i64 c])
theorem bt_getD (s : ByteArray) (i : Nat) : (s.data.toList.getD i 0).toNat = bt s i := rfl
/-- What has been read of Chars, byte by byte. -/
def Qr (s : ByteArray) (i j : Nat) (txt : List UInt8) : Prop :=
  i + 1 ≤ j ∧ j ≤ s.size ∧ qt (tl s (i + 1)) = (qt (tl s j)).map (fun x => (txt ++ x.1, j - (i + 1) + x.2))
theorem Qr.zero {s : ByteArray} {i : Nat} (hi : i < s.size) : Qr s i (i + 1) [] := by
  refine ⟨Nat.le_refl _, hi, ?_⟩
  rw [Nat.sub_self]
  cases qt (tl s (i + 1)) with
  | none => rfl
  | some x => rw [Option.map_some, List.nil_append, Nat.zero_add]
theorem Qr.no {s : ByteArray} {i j : Nat} {txt : List UInt8} (h : Qr s i j txt) (hj : ¬ j < s.size) : chrS (tl s (i + 1)) = .bad 1 := by
  refine chrS_none ?_
  rw [h.2.2, tl_end hj]; rfl
theorem Qr.one {s : ByteArray} {i j : Nat} {txt : List UInt8} (h : Qr s i j txt) (hj : j < s.size) (hb : bt s j ≠ 39) : Qr s i (j + 1) (txt ++ [s.data.toList.getD j 0]) := by
  obtain ⟨h1, h2, h3⟩ := h
  refine ⟨by omega, hj, ?_⟩
  rw [h3, tl_cons hj, qt_cons_ne (show ¬ _ = 39 from hb)]
  cases qt (tl s (j + 1)) with
  | none => rfl
  | some x => simp only [Option.map_some, List.append_assoc, List.cons_append, List.nil_append]; rw [show j - (i + 1) + (x.2 + 1) = j + 1 - (i + 1) + x.2 by omega]
theorem Qr.two {s : ByteArray} {i j : Nat} {txt : List UInt8} (h : Qr s i j txt) (hj : j + 1 < s.size) (hb : bt s j = 39) (hc : bt s (j + 1) = 39) : Qr s i (j + 2) (txt ++ [39]) := by
  obtain ⟨h1, h2, h3⟩ := h
  refine ⟨by omega, by omega, ?_⟩
  rw [h3, tl_cons (show j < s.size by omega), tl_cons hj, qt_two (show _ = 39 from hb) (show _ = 39 from hc)]
  show _ = (qt (tl s (j + 1 + 1))).map _
  cases qt (tl s (j + 1 + 1)) with
  | none => rfl
  | some x => simp only [Option.map_some, List.append_assoc, List.cons_append, List.nil_append]; rw [show j - (i + 1) + (x.2 + 2) = j + 2 - (i + 1) + x.2 by omega]
theorem Qr.fin {s : ByteArray} {i j : Nat} {txt : List UInt8} (h : Qr s i j txt) (hj : j < s.size) (hb : bt s j = 39) (hc : ¬ j + 1 < s.size ∨ bt s (j + 1) ≠ 39) :
    chrS (tl s (i + 1)) = if qbl txt = true then .ok ⟨2, 0, 0, txt⟩ (j + 1 - i) else .bad 1 := by
  obtain ⟨h1, h2, h3⟩ := h
  have hend : qt (tl s j) = some ([], 1) := by
    rw [tl_cons hj]
    by_cases hlt : j + 1 < s.size
    · rw [tl_cons hlt]
      exact qt_end (show _ = 39 from hb) (show ¬ _ = 39 from hc.resolve_left (fun h => h hlt))
    · rw [tl_end hlt]; exact qt_one (show _ = 39 from hb)
  have he : qt (tl s (i + 1)) = some (txt, j - (i + 1) + 1) := by
    rw [h3, hend]; simp only [Option.map_some, List.append_nil]
  rw [chrS_some he, show j - (i + 1) + 1 + 1 = j + 1 - i by omega]
theorem cat_byte {T s : ByteArray} {j : Nat} (hj : j < s.size) : (T ++ s.extract j (j + 1)).data.toList = T.data.toList ++ [s.data.toList.getD j 0] := by
  have hl : j < s.data.toList.length := by rw [← size_eq]; exact hj
  rw [ByteArray.data_append, Array.toList_append, extract_data, Nat.add_sub_cancel_left, List.drop_eq_getElem_cons hl, List.getD_eq_getElem?_getD, List.getElem?_eq_getElem hl]; rfl
theorem cat_quote (T : ByteArray) : (T ++ (⟨#[39]⟩ : ByteArray)).data.toList = T.data.toList ++ [39] := by
  rw [ByteArray.data_append, Array.toList_append]
set_option maxRecDepth 100000 in
set_option maxHeartbeats 4000000 in
theorem quoted_any (s : ByteArray) (i : Nat) (hi : i < s.size) (hs : s.size ≤ 100000) (w : World) :
    Calls Tryz.prog 34 #[.string s, .int .i64 i] w (RwP (chrS (tl s (i + 1))) i w) := by
  have HW : Hid (∀ W, chrS (tl s (i + 1)) = W → ∀ e w', RwP W i w e w' → RwP (chrS (tl s (i + 1))) i w e w') := fun W h e w' h2 => by rw [h]; exact h2
  go_enter Tryz.func34, Tryz.ntmps34
  go_wp2_with fail
  go_loopw [7, 8] (fun t v wr => ∃ (j : Nat) (T : ByteArray), t = .string T ∧ v = .int .i64 j ∧ Hid (Qr s i j T.data.toList) ∧ T.size ≤ j ∧ j ≤ s.size ∧ Hid (Tbx wr w.heap.size (.int .i64 0) (.int .i64 0) (.int .i64 0) (.string ⟨#[]⟩) (.int .i64 0)) ∧ Hid (Below w.heap.size w wr)) (fun _ v _ => s.size - (RowKit.intOf v).toNat)
  case atStart => exact ⟨i + 1, ⟨#[]⟩, rfl, by go_num, Qr.zero hi, Nat.zero_le _, hi, Tbx.new w _ _ _ _ _, (Below.refl _ w).alloc (Nat.le_refl _) _⟩
  case round =>
    obtain ⟨j, T, rfl, rfl, HQ, hT, hj, HK, HB⟩ := hrel
    by_cases hlt : j < s.size
    · have hix := index_at s j (j : Int) rfl hlt
      have hlt' : ¬ (s.size : Int) ≤ (j : Int) := by omega
      have ilt : (j : Int) < (s.size : Int) := by omega
      by_cases hb : bt s j = 39
      · have hq := HQ.out
        rcases (by omega : (j + 1 < s.size ∧ bt s (j + 1) = 39) ∨ (j + 1 < s.size ∧ ¬ bt s (j + 1) = 39) ∨ ¬ j + 1 < s.size) with ⟨h1, h2⟩ | h1
        · have HN : Hid (Qr s i (j + 2) (T ++ (⟨#[39]⟩ : ByteArray)).data.toList) := by show Qr _ _ _ _; rw [cat_quote]; exact hq.two h1 hb h2
          have hiy := index_at s (j + 1) ((j : Int) + 1) (by omega) h1
          have t1 : ((bt s j : Int) != 39) = false := by simp [hb]
          have t2 : ((bt s (j + 1) : Int) == 39) = true := by rw [beq_iff_eq]; omega
          have t3 : (j : Int) + 1 < (s.size : Int) := by omega
          clear hq hb h2
          go_wp2_with fail
          refine ⟨⟨j + 2, _, rfl, by go_num, HN, by rw [ByteArray.size_append]; show _ + 1 ≤ _; omega, by omega, HK, HB⟩, by simp [RowKit.intOf]; omega⟩
        · have HE : Hid (chrS (tl s (i + 1)) = if qbl T.data.toList = true then .ok ⟨2, 0, 0, T.data.toList⟩ (j + 1 - i) else .bad 1) := hq.fin hlt hb (h1.elim (fun h => .inr h.2) .inl)
          have t1 : ((bt s j : Int) != 39) = false := by simp [hb]
          have hji := hq.1
          have hcall := quot_any T (by omega)
          rw [tl_zero] at hcall
          have HT : Hid (T = ⟨T.data.toList.toArray⟩) := rfl
          clear hq hb
          rcases h1 with ⟨h1, h2⟩ | h1
          · have hiy := index_at s (j + 1) ((j : Int) + 1) (by omega) h1
            have t2 : ((bt s (j + 1) : Int) == 39) = false := by rw [beq_eq_false_iff_ne]; omega
            have t3 : (j : Int) + 1 < (s.size : Int) := by omega
            clear h2
            go_wp2_with fail
            refine (hcall _).mono ?_
            rintro e w1 ⟨rfl, hB1⟩
            have K := HK.out.go hB1
            have HB1 : Hid (Below w.heap.size w w1) := HB.out.trans (hB1.mono HB.out.size)
            clear hB1 hcall
            cases hq : qbl T.data.toList
            · have HG : Hid (chrS (tl s (i + 1)) = .bad 1) := by show _ = _; rw [HE.out, hq]; rfl
              clear hq
              have r0 := K.c0
              have r1 := K.c1
              have r2 := K.c2
              have r3 := K.c3
              have r4 := K.c4
              have f0 := K.fr 0
              have f1 := K.fr 1
              have f2 := K.fr 2
              have f3 := K.fr 3
              have f4 := K.fr 4
              go_wp2_with fail
              have F := K.set5 (.int .i64 0) (.int .i64 0) (.int .i64 0) (.string ⟨#[]⟩) (.int .i64 0)
              have q0 := F.c0
              have q1 := F.c1
              have q2 := F.c2
              have q3 := F.c3
              have q4 := F.c4
              refine bodyPost_ret (v := .tuple #[tokZ, .int .i64 0, .int .i64 1]) (by simp [results, Tryz.results34, go_sem, tokZ, q0, q1, q2, q3, q4]) rfl (HW.out _ HG.out _ _ ⟨bel_set5 HB1.out (Nat.le_refl _) _ _ _ _ _, ?_⟩)
              exact rfl
            · have HG : Hid (chrS (tl s (i + 1)) = .ok ⟨2, 0, 0, T.data.toList⟩ (j + 1 - i)) := by show _ = _; rw [HE.out, if_pos hq]
              clear hq
              have r0 := K.c0
              have r1 := K.c1
              have r2 := K.c2
              have r3 := K.c3
              have r4 := K.c4
              have f0 := K.fr 0
              have f1 := K.fr 1
              have f2 := K.fr 2
              have f3 := K.fr 3
              have f4 := K.fr 4
              go_wp2_with fail
              have F := K.set5 (.int .i64 2) (.int .i64 0) (.int .i64 0) (.string T) (.int .i64 i)
              have q0 := F.c0
              have q1 := F.c1
              have q2 := F.c2
              have q3 := F.c3
              have q4 := F.c4
              refine bodyPost_ret (v := .tuple #[tokV ⟨2, 0, 0, T.data.toList⟩ i, .int .i64 ((j : Int) + 1), .int .i64 0]) (by simp [results, Tryz.results34, go_sem, tokV, q0, q1, q2, q3, q4]) rfl (HW.out _ HG.out _ _ ⟨bel_set5 HB1.out (Nat.le_refl _) _ _ _ _ _, ?_⟩)
              have e : (j : Int) + 1 = ((i + (j + 1 - i) : Nat) : Int) := by omega
              rw [e]
          · have t3 : ¬ (j : Int) + 1 < (s.size : Int) := by omega
            go_wp2_with fail
            refine (hcall _).mono ?_
            rintro e w1 ⟨rfl, hB1⟩
            have K := HK.out.go hB1
            have HB1 : Hid (Below w.heap.size w w1) := HB.out.trans (hB1.mono HB.out.size)
            clear hB1 hcall
            cases hq : qbl T.data.toList
            · have HG : Hid (chrS (tl s (i + 1)) = .bad 1) := by show _ = _; rw [HE.out, hq]; rfl
              clear hq
              have r0 := K.c0
              have r1 := K.c1
              have r2 := K.c2
              have r3 := K.c3
              have r4 := K.c4
              have f0 := K.fr 0
              have f1 := K.fr 1
              have f2 := K.fr 2
              have f3 := K.fr 3
              have f4 := K.fr 4
              go_wp2_with fail
              have F := K.set5 (.int .i64 0) (.int .i64 0) (.int .i64 0) (.string ⟨#[]⟩) (.int .i64 0)
              have q0 := F.c0
              have q1 := F.c1
              have q2 := F.c2
              have q3 := F.c3
              have q4 := F.c4
              refine bodyPost_ret (v := .tuple #[tokZ, .int .i64 0, .int .i64 1]) (by simp [results, Tryz.results34, go_sem, tokZ, q0, q1, q2, q3, q4]) rfl (HW.out _ HG.out _ _ ⟨bel_set5 HB1.out (Nat.le_refl _) _ _ _ _ _, ?_⟩)
              exact rfl
            · have HG : Hid (chrS (tl s (i + 1)) = .ok ⟨2, 0, 0, T.data.toList⟩ (j + 1 - i)) := by show _ = _; rw [HE.out, if_pos hq]
              clear hq
              have r0 := K.c0
              have r1 := K.c1
              have r2 := K.c2
              have r3 := K.c3
              have r4 := K.c4
              have f0 := K.fr 0
              have f1 := K.fr 1
              have f2 := K.fr 2
              have f3 := K.fr 3
              have f4 := K.fr 4
              go_wp2_with fail
              have F := K.set5 (.int .i64 2) (.int .i64 0) (.int .i64 0) (.string T) (.int .i64 i)
              have q0 := F.c0
              have q1 := F.c1
              have q2 := F.c2
              have q3 := F.c3
              have q4 := F.c4
              refine bodyPost_ret (v := .tuple #[tokV ⟨2, 0, 0, T.data.toList⟩ i, .int .i64 ((j : Int) + 1), .int .i64 0]) (by simp [results, Tryz.results34, go_sem, tokV, q0, q1, q2, q3, q4]) rfl (HW.out _ HG.out _ _ ⟨bel_set5 HB1.out (Nat.le_refl _) _ _ _ _ _, ?_⟩)
              have e : (j : Int) + 1 = ((i + (j + 1 - i) : Nat) : Int) := by omega
              rw [e]
      · have HN : Hid (Qr s i (j + 1) (T ++ s.extract j (j + 1)).data.toList) := by show Qr _ _ _ _; rw [cat_byte hlt]; exact HQ.out.one hlt hb
        have t1 : ((bt s j : Int) != 39) = true := by simp; omega
        have hsz : (s.extract j (j + 1)).size = 1 := by rw [ByteArray.size_extract]; omega
        clear hb
        go_wp2_with fail
        refine ⟨⟨j + 1, _, rfl, by go_num, HN, by rw [ByteArray.size_append, hsz]; omega, hlt, HK, HB⟩, by simp [RowKit.intOf]; omega⟩
    · have hlt' : (s.size : Int) ≤ (j : Int) := by omega
      have HE : Hid (chrS (tl s (i + 1)) = .bad 1) := HQ.out.no hlt
      have K := HK.out
      have HB1 : Hid (Below w.heap.size w wr) := HB
      have r0 := K.c0
      have r1 := K.c1
      have r2 := K.c2
      have r3 := K.c3
      have r4 := K.c4
      have f0 := K.fr 0
      have f1 := K.fr 1
      have f2 := K.fr 2
      have f3 := K.fr 3
      have f4 := K.fr 4
      go_wp2_with fail
      have F := K.set5 (.int .i64 0) (.int .i64 0) (.int .i64 0) (.string ⟨#[]⟩) (.int .i64 0)
      have q0 := F.c0
      have q1 := F.c1
      have q2 := F.c2
      have q3 := F.c3
      have q4 := F.c4
      refine bodyPost_ret (v := .tuple #[tokZ, .int .i64 0, .int .i64 1]) (by simp [results, Tryz.results34, go_sem, tokZ, q0, q1, q2, q3, q4]) rfl (HW.out _ HE.out _ _ ⟨bel_set5 HB1.out (Nat.le_refl _) _ _ _ _ _, ?_⟩)
      exact rfl
end Go.Proofs.YthfdpfekjcdlbaaGreatDoor
