/-
  The reference reads a word.
-/
import Derived.Test.YthfdpfekjcdlbaaGreatDoorLyc
namespace Go.Proofs.YthfdpfekjcdlbaaGreatDoor
open Go.RowKit Go.Lib
set_option linter.unusedVariables false

theorem tkw_at (p : UInt8 → Bool) : ∀ l : List UInt8, (∀ k, k < (l.takeWhile p).length → p (l.getD k 0) = true) ∧ ((l.takeWhile p).length < l.length → p (l.getD (l.takeWhile p).length 0) = false) ∧ l.takeWhile p = l.take (l.takeWhile p).length
  | [] => ⟨fun k h => by simp at h, fun h => by simp at h, rfl⟩
  | b :: l => by
    cases hb : p b
    · have e : (b :: l).takeWhile p = [] := by
        show (match p b with | true => b :: l.takeWhile p | false => []) = _
        rw [hb]
      rw [e]
      exact ⟨fun k h => by simp at h, fun _ => hb, rfl⟩
    · have e : (b :: l).takeWhile p = b :: l.takeWhile p := by
        show (match p b with | true => b :: l.takeWhile p | false => []) = _
        rw [hb]
      obtain ⟨h1, h2, h3⟩ := tkw_at p l
      rw [e]
      refine ⟨fun k hk => ?_, fun h => h2 (by simpa using h), ?_⟩
      · cases k with
        | zero => exact hb
        | succ k => exact h1 k (by simpa using hk)
      · show b :: l.takeWhile p = b :: l.take (l.takeWhile p).length
        rw [← h3]
theorem bt_tl (s : ByteArray) (a k : Nat) : ((tl s a).getD k 0).toNat = bt s (a + k) := by
  unfold tl bt
  rw [List.getD_eq_getElem?_getD, List.getD_eq_getElem?_getD, List.getElem?_drop]
/-- Bytes of one kind, one behind the other, from a byte on. -/
theorem run_at {P : UInt8 → Bool} {pI : Int → Bool} (hp : ∀ b : UInt8, pI (b.toNat : Int) = P b) {s : ByteArray} {a : Nat} (ha : a ≤ s.size) {q : List UInt8} (hq : q = (tl s a).takeWhile P) :
    (∀ k, k < q.length → a + k < s.size ∧ pI (bt s (a + k)) = true) ∧ (a + q.length < s.size → pI (bt s (a + q.length)) = false) ∧ q = (tl s a).take q.length ∧ a + q.length ≤ s.size ∧ s.extract a (a + q.length) = ⟨q.toArray⟩ := by
  obtain ⟨h1, h2, h3⟩ := tkw_at P (tl s a)
  have h4 := tk_le P (tl s a)
  rw [← hq] at h1 h2 h3 h4
  rw [tl_len] at h2 h4
  refine ⟨fun k hk => ⟨by omega, ?_⟩, fun h => ?_, h3, by omega, ?_⟩
  · rw [← bt_tl, hp]; exact h1 k hk
  · rw [← bt_tl, hp]; exact h2 (by omega)
  · apply ByteArray.ext
    apply Array.toList_inj.1
    rw [extract_data, Nat.add_sub_cancel_left]
    show (tl s a).take _ = q
    rw [← h3]
theorem dgI_of (b : UInt8) : dgI (b.toNat : Int) = isDg b := dgI_is b
theorem ptI_of (b : UInt8) : ptI (b.toNat : Int) = isPt b := ptI_is b
theorem numW_no {m : Bool} {q : List UInt8} (h : 1 ≤ q.length) (hi : inW m (dgA 0 q) = false) : numW m q = .bad 6 := by
  unfold numW
  rw [if_neg (fun e => by rw [e] at h; simp at h)]
  unfold numS
  unfold inW at hi
  cases m
  · rw [if_neg Bool.false_ne_true, decide_eq_false_iff_not] at hi
    rw [if_neg (by rw [if_neg Bool.false_ne_true]; exact hi)]
  · rw [if_pos rfl, decide_eq_false_iff_not] at hi
    rw [if_neg (by rw [if_pos rfl]; exact hi)]
theorem numW_ok {m : Bool} {q : List UInt8} (h : 1 ≤ q.length) (hi : inW m (dgA 0 q) = true) : numW m q = .ok ⟨1, 0, vlW m (dgA 0 q), []⟩ ((if m = true then 2 else 0) + q.length) := by
  unfold vlW
  rw [if_pos hi]
  unfold numW
  rw [if_neg (fun e => by rw [e] at h; simp at h)]
  unfold numS
  unfold inW at hi
  cases m
  · rw [if_neg Bool.false_ne_true, decide_eq_true_iff] at hi
    rw [if_pos (by rw [if_neg Bool.false_ne_true]; exact hi)]
  · rw [if_pos rfl, decide_eq_true_iff] at hi
    rw [if_pos (by rw [if_pos rfl]; exact hi)]
set_option maxRecDepth 100000 in
set_option maxHeartbeats 4000000 in
theorem rw_num (s : ByteArray) (i : Nat) (hi : i < s.size) (hs : s.size ≤ 100000) (w : World) (HW : Hid (∀ W, wordS (tl s i) = W → ∀ e w', RwP W i w e w' → RwP (wordS (tl s i)) i w e w')) (m : Bool) (HM : Hid (minusB.isPrefixOf (tl s i) = m)) (i0 : Nat) (h0 : i0 = if m = true then i + 2 else i) (h0s : i0 ≤ s.size) (q : List UInt8) (hq : q = (tl s i0).takeWhile isDg) (hne : q ≠ []) (HN : Hid (wordS (tl s i) = numW m q)) :
    Calls Tryz.prog 17 #[.string s, .int .i64 i] w (RwP (wordS (tl s i)) i w) := by
  obtain ⟨d1, d2, d3, d4, -⟩ := run_at dgI_of h0s hq
  have HD : Hid (∀ k, k < q.length → i0 + k < s.size ∧ dgI (bt s (i0 + k)) = true) := d1
  have HX : Hid (i0 + q.length < s.size → dgI (bt s (i0 + q.length)) = false) := d2
  have hall : q.all isDg = true := by rw [hq]; exact tk_all isDg _
  have hwh := whole_any s i0 q d3 hall d4 (by omega) m
  rw [Int.natCast_add] at hwh
  have hpos : 1 ≤ q.length := by cases q with
    | nil => exact absurd rfl hne
    | cons b r => simp
  have hgt : (i0 : Int) < (i0 : Int) + (q.length : Int) := by omega
  clear d1 d2 d3 hall hq hne
  cases m
  · obtain rfl : i = i0 := h0.symm
    clear h0
    have HI : Hid (0 + q.length = i + q.length - i) := by show _ = _; omega
    have HK : Hid (Tbx (w.alloc (.cells #[.int .i64 0, .int .i64 0, .int .i64 0, .string ⟨#[]⟩, .int .i64 0] 35)) w.heap.size (.int .i64 0) (.int .i64 0) (.int .i64 0) (.string ⟨#[]⟩) (.int .i64 0)) := Tbx.new w _ _ _ _ _
    have HB : Hid (Below w.heap.size w (w.alloc (.cells #[.int .i64 0, .int .i64 0, .int .i64 0, .string ⟨#[]⟩, .int .i64 0] 35))) := (Below.refl _ w).alloc (Nat.le_refl _) _
    have hcb := begins_any s ⟨#[194, 175]⟩ i (by omega) (by omega) (by decide)
    rw [tl_zero] at hcb
    go_enter Tryz.func17, Tryz.ntmps17
    go_wp2_with fail
    refine (hcb _).mono ?_
    rintro e w1 ⟨rfl, hB1⟩
    rw [show (⟨#[194, 175]⟩ : ByteArray).data.toList.isPrefixOf (tl s i) = _ from HM.out]
    have HK1 : Hid (Tbx w1 w.heap.size (.int .i64 0) (.int .i64 0) (.int .i64 0) (.string ⟨#[]⟩) (.int .i64 0)) := HK.out.go hB1
    have HB1 : Hid (Below w.heap.size w w1) := HB.out.trans (hB1.mono HB.out.size)
    clear hB1 hcb
    go_wp2_with fail
    go_loopw [9] (fun v wr => ∃ k : Nat, k ≤ q.length ∧ v = .int .i64 ((i + k : Nat) : Int) ∧ w1 = wr) (fun v _ => i + q.length - (RowKit.intOf v).toNat)
    case atStart => exact ⟨0, Nat.zero_le _, by rw [Nat.add_zero], rfl⟩
    case round =>
      obtain ⟨k, hk, rfl, rfl⟩ := hrel
      by_cases hlt : k < q.length
      · obtain ⟨g1, g2⟩ := HD.out k hlt
        have hix := index_at s (i + k) ((i : Int) + (k : Int)) (by omega) g1
        have g3 : (i : Int) + (k : Int) < (s.size : Int) := by omega
        go_wp2_with fail
        refine (rdig_any _ _).mono ?_
        rintro e w' ⟨rfl, hw'⟩
        obtain rfl := hw'.symm
        rw [g2]
        go_wp2_with fail
        refine ⟨⟨k + 1, hlt, by rw [show i + (k + 1) = i + k + 1 by omega]; go_num, by first | rfl | trivial⟩, by simp [RowKit.intOf]; omega⟩
      · obtain rfl : k = q.length := by omega
        rcases (by omega : i + q.length < s.size ∨ ¬ i + q.length < s.size) with ge | ge
        · have g2 := HX.out ge
          have hix := index_at s (i + q.length) ((i : Int) + (q.length : Int)) (by omega) ge
          have g3 : (i : Int) + (q.length : Int) < (s.size : Int) := by omega
          go_wp2_with fail
          refine (rdig_any _ _).mono ?_
          rintro e w' ⟨rfl, hw'⟩
          obtain rfl := hw'.symm
          rw [g2]
          clear g2 hix
          go_wp2_with fail
          refine (hwh _).mono ?_
          rintro e w2 ⟨rfl, hB2⟩
          have HK2 : Hid (Tbx w2 w.heap.size (.int .i64 0) (.int .i64 0) (.int .i64 0) (.string ⟨#[]⟩) (.int .i64 0)) := HK1.out.go hB2
          have HB2 : Hid (Below w.heap.size w w2) := HB1.out.trans (hB2.mono HB1.out.size)
          clear hB2 hwh
          cases hin : inW false (dgA 0 q)
          · have HG : Hid (wordS (tl s i) = .bad 6) := by show _ = _; rw [HN.out]; exact numW_no hpos hin
            clear hin
            have K := HK2.out
            have r0 := K.c0
            have r1 := K.c1
            have r2 := K.c2
            have r3 := K.c3
            have r4 := K.c4
            have f0 := K.fr 0
            have f1 := K.fr 1
            have f2 := K.fr 2
            have f3 := K.fr 3
            have f4 := K.fr 4
            go_wp2_with fail
            have F := K.set5 (.int .i64 0) (.int .i64 0) (.int .i64 0) (.string ⟨#[]⟩) (.int .i64 0)
            have q0 := F.c0
            have q1 := F.c1
            have q2 := F.c2
            have q3 := F.c3
            have q4 := F.c4
            refine bodyPost_ret (v := .tuple #[tokZ, .int .i64 0, .int .i64 6]) (by simp [results, Tryz.results17, go_sem, tokZ, q0, q1, q2, q3, q4]) rfl (HW.out _ HG.out _ _ ⟨bel_set5 HB2.out (Nat.le_refl _) _ _ _ _ _, ?_⟩)
            exact rfl
          · have HG : Hid (wordS (tl s i) = .ok ⟨1, 0, vlW false (dgA 0 q), []⟩ (i + q.length - i)) := by show _ = _; rw [HN.out, numW_ok hpos hin]; show Wd.ok _ (0 + q.length) = _; rw [HI.out]
            clear hin
            generalize vlW false (dgA 0 q) = V at *
            have K := HK2.out
            have r0 := K.c0
            have r1 := K.c1
            have r2 := K.c2
            have r3 := K.c3
            have r4 := K.c4
            have f0 := K.fr 0
            have f1 := K.fr 1
            have f2 := K.fr 2
            have f3 := K.fr 3
            have f4 := K.fr 4
            go_wp2_with fail
            have F := K.set5 (.int .i64 1) (.int .i64 0) (.int .i64 V) (.string ⟨#[]⟩) (.int .i64 i)
            have q0 := F.c0
            have q1 := F.c1
            have q2 := F.c2
            have q3 := F.c3
            have q4 := F.c4
            refine bodyPost_ret (v := .tuple #[tokV ⟨1, 0, V, []⟩ i, .int .i64 ((i : Int) + (q.length : Int)), .int .i64 0]) (by simp [results, Tryz.results17, go_sem, tokV, q0, q1, q2, q3, q4]) rfl (HW.out _ HG.out _ _ ⟨bel_set5 HB2.out (Nat.le_refl _) _ _ _ _ _, ?_⟩)
            have e : (i : Int) + (q.length : Int) = ((i + (i + q.length - i) : Nat) : Int) := by omega
            rw [e]
        · have g3 : ¬ (i : Int) + (q.length : Int) < (s.size : Int) := by omega
          go_wp2_with fail
          refine (hwh _).mono ?_
          rintro e w2 ⟨rfl, hB2⟩
          have HK2 : Hid (Tbx w2 w.heap.size (.int .i64 0) (.int .i64 0) (.int .i64 0) (.string ⟨#[]⟩) (.int .i64 0)) := HK1.out.go hB2
          have HB2 : Hid (Below w.heap.size w w2) := HB1.out.trans (hB2.mono HB1.out.size)
          clear hB2 hwh
          cases hin : inW false (dgA 0 q)
          · have HG : Hid (wordS (tl s i) = .bad 6) := by show _ = _; rw [HN.out]; exact numW_no hpos hin
            clear hin
            have K := HK2.out
            have r0 := K.c0
            have r1 := K.c1
            have r2 := K.c2
            have r3 := K.c3
            have r4 := K.c4
            have f0 := K.fr 0
            have f1 := K.fr 1
            have f2 := K.fr 2
            have f3 := K.fr 3
            have f4 := K.fr 4
            go_wp2_with fail
            have F := K.set5 (.int .i64 0) (.int .i64 0) (.int .i64 0) (.string ⟨#[]⟩) (.int .i64 0)
            have q0 := F.c0
            have q1 := F.c1
            have q2 := F.c2
            have q3 := F.c3
            have q4 := F.c4
            refine bodyPost_ret (v := .tuple #[tokZ, .int .i64 0, .int .i64 6]) (by simp [results, Tryz.results17, go_sem, tokZ, q0, q1, q2, q3, q4]) rfl (HW.out _ HG.out _ _ ⟨bel_set5 HB2.out (Nat.le_refl _) _ _ _ _ _, ?_⟩)
            exact rfl
          · have HG : Hid (wordS (tl s i) = .ok ⟨1, 0, vlW false (dgA 0 q), []⟩ (i + q.length - i)) := by show _ = _; rw [HN.out, numW_ok hpos hin]; show Wd.ok _ (0 + q.length) = _; rw [HI.out]
            clear hin
            generalize vlW false (dgA 0 q) = V at *
            have K := HK2.out
            have r0 := K.c0
            have r1 := K.c1
            have r2 := K.c2
            have r3 := K.c3
            have r4 := K.c4
            have f0 := K.fr 0
            have f1 := K.fr 1
            have f2 := K.fr 2
            have f3 := K.fr 3
            have f4 := K.fr 4
            go_wp2_with fail
            have F := K.set5 (.int .i64 1) (.int .i64 0) (.int .i64 V) (.string ⟨#[]⟩) (.int .i64 i)
            have q0 := F.c0
            have q1 := F.c1
            have q2 := F.c2
            have q3 := F.c3
            have q4 := F.c4
            refine bodyPost_ret (v := .tuple #[tokV ⟨1, 0, V, []⟩ i, .int .i64 ((i : Int) + (q.length : Int)), .int .i64 0]) (by simp [results, Tryz.results17, go_sem, tokV, q0, q1, q2, q3, q4]) rfl (HW.out _ HG.out _ _ ⟨bel_set5 HB2.out (Nat.le_refl _) _ _ _ _ _, ?_⟩)
            have e : (i : Int) + (q.length : Int) = ((i + (i + q.length - i) : Nat) : Int) := by omega
            rw [e]
  · have e0 : (i : Int) + 2 = (i0 : Int) := by rw [h0]; rfl
    have HI : Hid (2 + q.length = i0 + q.length - i) := by show _ = _; rw [if_pos rfl] at h0; omega
    have hi0 : i ≤ i0 := by omega
    clear h0
    have HK : Hid (Tbx (w.alloc (.cells #[.int .i64 0, .int .i64 0, .int .i64 0, .string ⟨#[]⟩, .int .i64 0] 35)) w.heap.size (.int .i64 0) (.int .i64 0) (.int .i64 0) (.string ⟨#[]⟩) (.int .i64 0)) := Tbx.new w _ _ _ _ _
    have HB : Hid (Below w.heap.size w (w.alloc (.cells #[.int .i64 0, .int .i64 0, .int .i64 0, .string ⟨#[]⟩, .int .i64 0] 35))) := (Below.refl _ w).alloc (Nat.le_refl _) _
    have hcb := begins_any s ⟨#[194, 175]⟩ i (by omega) (by omega) (by decide)
    rw [tl_zero] at hcb
    go_enter Tryz.func17, Tryz.ntmps17
    go_wp2_with fail
    refine (hcb _).mono ?_
    rintro e w1 ⟨rfl, hB1⟩
    rw [show (⟨#[194, 175]⟩ : ByteArray).data.toList.isPrefixOf (tl s i) = _ from HM.out]
    have HK1 : Hid (Tbx w1 w.heap.size (.int .i64 0) (.int .i64 0) (.int .i64 0) (.string ⟨#[]⟩) (.int .i64 0)) := HK.out.go hB1
    have HB1 : Hid (Below w.heap.size w w1) := HB.out.trans (hB1.mono HB.out.size)
    clear hB1 hcb
    go_wp2_with fail
    go_loopw [9] (fun v wr => ∃ k : Nat, k ≤ q.length ∧ v = .int .i64 ((i0 + k : Nat) : Int) ∧ w1 = wr) (fun v _ => i0 + q.length - (RowKit.intOf v).toNat)
    case atStart => exact ⟨0, Nat.zero_le _, by rw [Nat.add_zero], rfl⟩
    case round =>
      obtain ⟨k, hk, rfl, rfl⟩ := hrel
      by_cases hlt : k < q.length
      · obtain ⟨g1, g2⟩ := HD.out k hlt
        have hix := index_at s (i0 + k) ((i0 : Int) + (k : Int)) (by omega) g1
        have g3 : (i0 : Int) + (k : Int) < (s.size : Int) := by omega
        go_wp2_with fail
        refine (rdig_any _ _).mono ?_
        rintro e w' ⟨rfl, hw'⟩
        obtain rfl := hw'.symm
        rw [g2]
        go_wp2_with fail
        refine ⟨⟨k + 1, hlt, by rw [show i0 + (k + 1) = i0 + k + 1 by omega]; go_num, by first | rfl | trivial⟩, by simp [RowKit.intOf]; omega⟩
      · obtain rfl : k = q.length := by omega
        rcases (by omega : i0 + q.length < s.size ∨ ¬ i0 + q.length < s.size) with ge | ge
        · have g2 := HX.out ge
          have hix := index_at s (i0 + q.length) ((i0 : Int) + (q.length : Int)) (by omega) ge
          have g3 : (i0 : Int) + (q.length : Int) < (s.size : Int) := by omega
          go_wp2_with fail
          refine (rdig_any _ _).mono ?_
          rintro e w' ⟨rfl, hw'⟩
          obtain rfl := hw'.symm
          rw [g2]
          clear g2 hix
          go_wp2_with fail
          refine (hwh _).mono ?_
          rintro e w2 ⟨rfl, hB2⟩
          have HK2 : Hid (Tbx w2 w.heap.size (.int .i64 0) (.int .i64 0) (.int .i64 0) (.string ⟨#[]⟩) (.int .i64 0)) := HK1.out.go hB2
          have HB2 : Hid (Below w.heap.size w w2) := HB1.out.trans (hB2.mono HB1.out.size)
          clear hB2 hwh
          cases hin : inW true (dgA 0 q)
          · have HG : Hid (wordS (tl s i) = .bad 6) := by show _ = _; rw [HN.out]; exact numW_no hpos hin
            clear hin
            have K := HK2.out
            have r0 := K.c0
            have r1 := K.c1
            have r2 := K.c2
            have r3 := K.c3
            have r4 := K.c4
            have f0 := K.fr 0
            have f1 := K.fr 1
            have f2 := K.fr 2
            have f3 := K.fr 3
            have f4 := K.fr 4
            go_wp2_with fail
            have F := K.set5 (.int .i64 0) (.int .i64 0) (.int .i64 0) (.string ⟨#[]⟩) (.int .i64 0)
            have q0 := F.c0
            have q1 := F.c1
            have q2 := F.c2
            have q3 := F.c3
            have q4 := F.c4
            refine bodyPost_ret (v := .tuple #[tokZ, .int .i64 0, .int .i64 6]) (by simp [results, Tryz.results17, go_sem, tokZ, q0, q1, q2, q3, q4]) rfl (HW.out _ HG.out _ _ ⟨bel_set5 HB2.out (Nat.le_refl _) _ _ _ _ _, ?_⟩)
            exact rfl
          · have HG : Hid (wordS (tl s i) = .ok ⟨1, 0, vlW true (dgA 0 q), []⟩ (i0 + q.length - i)) := by show _ = _; rw [HN.out, numW_ok hpos hin]; show Wd.ok _ (2 + q.length) = _; rw [HI.out]
            clear hin
            generalize vlW true (dgA 0 q) = V at *
            have K := HK2.out
            have r0 := K.c0
            have r1 := K.c1
            have r2 := K.c2
            have r3 := K.c3
            have r4 := K.c4
            have f0 := K.fr 0
            have f1 := K.fr 1
            have f2 := K.fr 2
            have f3 := K.fr 3
            have f4 := K.fr 4
            go_wp2_with fail
            have F := K.set5 (.int .i64 1) (.int .i64 0) (.int .i64 V) (.string ⟨#[]⟩) (.int .i64 i)
            have q0 := F.c0
            have q1 := F.c1
            have q2 := F.c2
            have q3 := F.c3
            have q4 := F.c4
            refine bodyPost_ret (v := .tuple #[tokV ⟨1, 0, V, []⟩ i, .int .i64 ((i0 : Int) + (q.length : Int)), .int .i64 0]) (by simp [results, Tryz.results17, go_sem, tokV, q0, q1, q2, q3, q4]) rfl (HW.out _ HG.out _ _ ⟨bel_set5 HB2.out (Nat.le_refl _) _ _ _ _ _, ?_⟩)
            have e : (i0 : Int) + (q.length : Int) = ((i + (i0 + q.length - i) : Nat) : Int) := by omega
            rw [e]
        · have g3 : ¬ (i0 : Int) + (q.length : Int) < (s.size : Int) := by omega
          go_wp2_with fail
          refine (hwh _).mono ?_
          rintro e w2 ⟨rfl, hB2⟩
          have HK2 : Hid (Tbx w2 w.heap.size (.int .i64 0) (.int .i64 0) (.int .i64 0) (.string ⟨#[]⟩) (.int .i64 0)) := HK1.out.go hB2
          have HB2 : Hid (Below w.heap.size w w2) := HB1.out.trans (hB2.mono HB1.out.size)
          clear hB2 hwh
          cases hin : inW true (dgA 0 q)
          · have HG : Hid (wordS (tl s i) = .bad 6) := by show _ = _; rw [HN.out]; exact numW_no hpos hin
            clear hin
            have K := HK2.out
            have r0 := K.c0
            have r1 := K.c1
            have r2 := K.c2
            have r3 := K.c3
            have r4 := K.c4
            have f0 := K.fr 0
            have f1 := K.fr 1
            have f2 := K.fr 2
            have f3 := K.fr 3
            have f4 := K.fr 4
            go_wp2_with fail
            have F := K.set5 (.int .i64 0) (.int .i64 0) (.int .i64 0) (.string ⟨#[]⟩) (.int .i64 0)
            have q0 := F.c0
            have q1 := F.c1
            have q2 := F.c2
            have q3 := F.c3
            have q4 := F.c4
            refine bodyPost_ret (v := .tuple #[tokZ, .int .i64 0, .int .i64 6]) (by simp [results, Tryz.results17, go_sem, tokZ, q0, q1, q2, q3, q4]) rfl (HW.out _ HG.out _ _ ⟨bel_set5 HB2.out (Nat.le_refl _) _ _ _ _ _, ?_⟩)
            exact rfl
          · have HG : Hid (wordS (tl s i) = .ok ⟨1, 0, vlW true (dgA 0 q), []⟩ (i0 + q.length - i)) := by show _ = _; rw [HN.out, numW_ok hpos hin]; show Wd.ok _ (2 + q.length) = _; rw [HI.out]
            clear hin
            generalize vlW true (dgA 0 q) = V at *
            have K := HK2.out
            have r0 := K.c0
            have r1 := K.c1
            have r2 := K.c2
            have r3 := K.c3
            have r4 := K.c4
            have f0 := K.fr 0
            have f1 := K.fr 1
            have f2 := K.fr 2
            have f3 := K.fr 3
            have f4 := K.fr 4
            go_wp2_with fail
            have F := K.set5 (.int .i64 1) (.int .i64 0) (.int .i64 V) (.string ⟨#[]⟩) (.int .i64 i)
            have q0 := F.c0
            have q1 := F.c1
            have q2 := F.c2
            have q3 := F.c3
            have q4 := F.c4
            refine bodyPost_ret (v := .tuple #[tokV ⟨1, 0, V, []⟩ i, .int .i64 ((i0 : Int) + (q.length : Int)), .int .i64 0]) (by simp [results, Tryz.results17, go_sem, tokV, q0, q1, q2, q3, q4]) rfl (HW.out _ HG.out _ _ ⟨bel_set5 HB2.out (Nat.le_refl _) _ _ _ _ _, ?_⟩)
            have e : (i0 : Int) + (q.length : Int) = ((i + (i0 + q.length - i) : Nat) : Int) := by omega
            rw [e]
set_option maxRecDepth 100000 in
set_option maxHeartbeats 4000000 in
theorem rw_min (s : ByteArray) (i : Nat) (hi : i < s.size) (hs : s.size ≤ 100000) (w : World) (HW : Hid (∀ W, wordS (tl s i) = W → ∀ e w', RwP W i w e w' → RwP (wordS (tl s i)) i w e w')) (HM : Hid (minusB.isPrefixOf (tl s i) = true)) (i0 : Nat) (h0 : i0 = i + 2) (h0s : i0 ≤ s.size) (hq : (tl s i0).takeWhile isDg = []) (HG : Hid (wordS (tl s i) = .bad 1)) :
    Calls Tryz.prog 17 #[.string s, .int .i64 i] w (RwP (wordS (tl s i)) i w) := by
  have HX : Hid (i0 < s.size → dgI (bt s i0) = false) := fun h => by
    have h2 := (run_at (q := []) dgI_of h0s hq.symm).2.1
    exact h2 h
  have e0 : (i : Int) + 2 = (i0 : Int) := by omega
  clear hq h0
  have HK : Hid (Tbx (w.alloc (.cells #[.int .i64 0, .int .i64 0, .int .i64 0, .string ⟨#[]⟩, .int .i64 0] 35)) w.heap.size (.int .i64 0) (.int .i64 0) (.int .i64 0) (.string ⟨#[]⟩) (.int .i64 0)) := Tbx.new w _ _ _ _ _
  have HB : Hid (Below w.heap.size w (w.alloc (.cells #[.int .i64 0, .int .i64 0, .int .i64 0, .string ⟨#[]⟩, .int .i64 0] 35))) := (Below.refl _ w).alloc (Nat.le_refl _) _
  have hcb := begins_any s ⟨#[194, 175]⟩ i (by omega) (by omega) (by decide)
  rw [tl_zero] at hcb
  go_enter Tryz.func17, Tryz.ntmps17
  go_wp2_with fail
  refine (hcb _).mono ?_
  rintro e w1 ⟨rfl, hB1⟩
  rw [show (⟨#[194, 175]⟩ : ByteArray).data.toList.isPrefixOf (tl s i) = _ from HM.out]
  have HK1 : Hid (Tbx w1 w.heap.size (.int .i64 0) (.int .i64 0) (.int .i64 0) (.string ⟨#[]⟩) (.int .i64 0)) := HK.out.go hB1
  have HB1 : Hid (Below w.heap.size w w1) := HB.out.trans (hB1.mono HB.out.size)
  clear hB1 hcb
  go_wp2_with fail
  go_loopw [9] (fun v wr => v = .int .i64 (i0 : Int) ∧ w1 = wr) (fun v _ => 0)
  case atStart => exact ⟨rfl, rfl⟩
  case round =>
    obtain ⟨rfl, rfl⟩ := hrel
    rcases (by omega : i0 < s.size ∨ ¬ i0 < s.size) with ge | ge
    · have g2 := HX.out ge
      have hix := index_at s i0 (i0 : Int) rfl ge
      have g3 : (i0 : Int) < (s.size : Int) := by omega
      go_wp2_with fail
      refine (rdig_any _ _).mono ?_
      rintro e w' ⟨rfl, hw'⟩
      obtain rfl := hw'.symm
      rw [g2]
      clear g2
      clear hix
      have K := HK1.out
      have r0 := K.c0
      have r1 := K.c1
      have r2 := K.c2
      have r3 := K.c3
      have r4 := K.c4
      have f0 := K.fr 0
      have f1 := K.fr 1
      have f2 := K.fr 2
      have f3 := K.fr 3
      have f4 := K.fr 4
      go_wp2_with fail
      have F := K.set5 (.int .i64 0) (.int .i64 0) (.int .i64 0) (.string ⟨#[]⟩) (.int .i64 0)
      have q0 := F.c0
      have q1 := F.c1
      have q2 := F.c2
      have q3 := F.c3
      have q4 := F.c4
      refine bodyPost_ret (v := .tuple #[tokZ, .int .i64 0, .int .i64 1]) (by simp [results, Tryz.results17, go_sem, tokZ, q0, q1, q2, q3, q4]) rfl (HW.out _ HG.out _ _ ⟨bel_set5 HB1.out (Nat.le_refl _) _ _ _ _ _, ?_⟩)
      exact rfl
    · have g3 : ¬ (i0 : Int) < (s.size : Int) := by omega
      have K := HK1.out
      have r0 := K.c0
      have r1 := K.c1
      have r2 := K.c2
      have r3 := K.c3
      have r4 := K.c4
      have f0 := K.fr 0
      have f1 := K.fr 1
      have f2 := K.fr 2
      have f3 := K.fr 3
      have f4 := K.fr 4
      go_wp2_with fail
      have F := K.set5 (.int .i64 0) (.int .i64 0) (.int .i64 0) (.string ⟨#[]⟩) (.int .i64 0)
      have q0 := F.c0
      have q1 := F.c1
      have q2 := F.c2
      have q3 := F.c3
      have q4 := F.c4
      refine bodyPost_ret (v := .tuple #[tokZ, .int .i64 0, .int .i64 1]) (by simp [results, Tryz.results17, go_sem, tokZ, q0, q1, q2, q3, q4]) rfl (HW.out _ HG.out _ _ ⟨bel_set5 HB1.out (Nat.le_refl _) _ _ _ _ _, ?_⟩)
      exact rfl
set_option maxRecDepth 100000 in
set_option maxHeartbeats 4000000 in
theorem rw_let (s : ByteArray) (i : Nat) (hi : i < s.size) (hs : s.size ≤ 100000) (w : World) (HW : Hid (∀ W, wordS (tl s i) = W → ∀ e w', RwP W i w e w' → RwP (wordS (tl s i)) i w e w')) (HM : Hid (minusB.isPrefixOf (tl s i) = false)) (hd : dgI (bt s i) = false) (HL : Hid (ltI (bt s i) = true)) (p : List UInt8) (hp : p = (tl s i).takeWhile isPt) (HN : Hid (wordS (tl s i) = if 12 < p.length then .bad 7 else .ok ⟨3, 0, 0, p⟩ p.length)) :
    Calls Tryz.prog 17 #[.string s, .int .i64 i] w (RwP (wordS (tl s i)) i w) := by
  have HX : Hid (i < s.size → dgI (bt s i) = false) := fun _ => hd
  clear hd
  obtain ⟨d1, d2, -, d4, d5⟩ := run_at ptI_of (Nat.le_of_lt hi) hp
  have HD2 : Hid (∀ k, k < p.length → i + k < s.size ∧ ptI (bt s (i + k)) = true) := d1
  have HX2 : Hid (i + p.length < s.size → ptI (bt s (i + p.length)) = false) := d2
  have HS : Hid (s.extract i (i + p.length) = ⟨p.toArray⟩) := d5
  clear d1 d2 d5 hp
  have HK : Hid (Tbx (w.alloc (.cells #[.int .i64 0, .int .i64 0, .int .i64 0, .string ⟨#[]⟩, .int .i64 0] 35)) w.heap.size (.int .i64 0) (.int .i64 0) (.int .i64 0) (.string ⟨#[]⟩) (.int .i64 0)) := Tbx.new w _ _ _ _ _
  have HB : Hid (Below w.heap.size w (w.alloc (.cells #[.int .i64 0, .int .i64 0, .int .i64 0, .string ⟨#[]⟩, .int .i64 0] 35))) := (Below.refl _ w).alloc (Nat.le_refl _) _
  have hcb := begins_any s ⟨#[194, 175]⟩ i (by omega) (by omega) (by decide)
  rw [tl_zero] at hcb
  go_enter Tryz.func17, Tryz.ntmps17
  go_wp2_with fail
  refine (hcb _).mono ?_
  rintro e w1 ⟨rfl, hB1⟩
  rw [show (⟨#[194, 175]⟩ : ByteArray).data.toList.isPrefixOf (tl s i) = _ from HM.out]
  have HK1 : Hid (Tbx w1 w.heap.size (.int .i64 0) (.int .i64 0) (.int .i64 0) (.string ⟨#[]⟩) (.int .i64 0)) := HK.out.go hB1
  have HB1 : Hid (Below w.heap.size w w1) := HB.out.trans (hB1.mono HB.out.size)
  clear hB1 hcb
  go_wp2_with fail
  go_loopw [9] (fun v wr => v = .int .i64 (i : Int) ∧ w1 = wr) (fun v _ => 0)
  case atStart => exact ⟨rfl, rfl⟩
  case round =>
    obtain ⟨rfl, rfl⟩ := hrel
    have ge := hi
    have g2 := HX.out ge
    have hix := index_at s i (i : Int) rfl ge
    have g3 : (i : Int) < (s.size : Int) := by omega
    go_wp2_with fail
    refine (rdig_any _ _).mono ?_
    rintro e w' ⟨rfl, hw'⟩
    obtain rfl := hw'.symm
    rw [g2]
    clear g2
    go_wp2_with fail
    refine (rlet_any _ _).mono ?_
    rintro e w' ⟨rfl, hw'⟩
    obtain rfl := hw'.symm
    rw [HL.out]
    go_wp2_with fail
    go_loopw [9] (fun v wr => ∃ k : Nat, k ≤ p.length ∧ v = .int .i64 ((i + k : Nat) : Int) ∧ w1 = wr) (fun v _ => i + p.length - (RowKit.intOf v).toNat)
    case atStart => exact ⟨0, Nat.zero_le _, by rw [Nat.add_zero], rfl⟩
    case round =>
      obtain ⟨k, hk, rfl, rfl⟩ := hrel
      by_cases hlt : k < p.length
      · obtain ⟨g1, g2⟩ := HD2.out k hlt
        have hix := index_at s (i + k) ((i : Int) + (k : Int)) (by omega) g1
        have g3 : (i : Int) + (k : Int) < (s.size : Int) := by omega
        go_wp2_with fail
        refine (rpart_any _ _).mono ?_
        rintro e w' ⟨rfl, hw'⟩
        obtain rfl := hw'.symm
        rw [g2]
        go_wp2_with fail
        refine ⟨⟨k + 1, hlt, by rw [show i + (k + 1) = i + k + 1 by omega]; go_num, by first | rfl | trivial⟩, by simp [RowKit.intOf]; omega⟩
      · obtain rfl : k = p.length := by omega
        rcases (by omega : i + p.length < s.size ∨ ¬ i + p.length < s.size) with ge | ge
        · have g2 := HX2.out ge
          have hix := index_at s (i + p.length) ((i : Int) + (p.length : Int)) (by omega) ge
          have g3 : (i : Int) + (p.length : Int) < (s.size : Int) := by omega
          go_wp2_with fail
          refine (rpart_any _ _).mono ?_
          rintro e w' ⟨rfl, hw'⟩
          obtain rfl := hw'.symm
          rw [g2]
          clear g2 hix
          have hcut : (i : Int) + (p.length : Int) - (i : Int) = (p.length : Int) := by omega
          by_cases h12 : 12 < p.length
          · have h13 : (12 : Int) < (p.length : Int) := by omega
            have HG : Hid (wordS (tl s i) = .bad 7) := by show _ = _; rw [HN.out, if_pos h12]
            have K := HK1.out
            have r0 := K.c0
            have r1 := K.c1
            have r2 := K.c2
            have r3 := K.c3
            have r4 := K.c4
            have f0 := K.fr 0
            have f1 := K.fr 1
            have f2 := K.fr 2
            have f3 := K.fr 3
            have f4 := K.fr 4
            go_wp2_with fail
            have F := K.set5 (.int .i64 0) (.int .i64 0) (.int .i64 0) (.string ⟨#[]⟩) (.int .i64 0)
            have q0 := F.c0
            have q1 := F.c1
            have q2 := F.c2
            have q3 := F.c3
            have q4 := F.c4
            refine bodyPost_ret (v := .tuple #[tokZ, .int .i64 0, .int .i64 7]) (by simp [results, Tryz.results17, go_sem, tokZ, q0, q1, q2, q3, q4]) rfl (HW.out _ HG.out _ _ ⟨bel_set5 HB1.out (Nat.le_refl _) _ _ _ _ _, ?_⟩)
            exact rfl
          · have h13 : ¬ (12 : Int) < (p.length : Int) := by omega
            have HG : Hid (wordS (tl s i) = .ok ⟨3, 0, 0, p⟩ p.length) := by show _ = _; rw [HN.out, if_neg h12]
            have K := HK1.out
            have r0 := K.c0
            have r1 := K.c1
            have r2 := K.c2
            have r3 := K.c3
            have r4 := K.c4
            have f0 := K.fr 0
            have f1 := K.fr 1
            have f2 := K.fr 2
            have f3 := K.fr 3
            have f4 := K.fr 4
            go_wp2_with fail
            have F := K.set5 (.int .i64 3) (.int .i64 0) (.int .i64 0) (.string (s.extract i (i + p.length))) (.int .i64 i)
            have q0 := F.c0
            have q1 := F.c1
            have q2 := F.c2
            have q3 := F.c3
            have q4 := F.c4
            refine bodyPost_ret (v := .tuple #[.agg #[.int .i64 3, .int .i64 0, .int .i64 0, .string (s.extract i (i + p.length)), .int .i64 i], .int .i64 ((i : Int) + (p.length : Int)), .int .i64 0]) (by simp [results, Tryz.results17, go_sem, q0, q1, q2, q3, q4]) rfl (HW.out _ HG.out _ _ ⟨bel_set5 HB1.out (Nat.le_refl _) _ _ _ _ _, ?_⟩)
            show _ = _
            rw [HS.out, Int.natCast_add]
            rfl
        · have g3 : ¬ (i : Int) + (p.length : Int) < (s.size : Int) := by omega
          have hcut : (i : Int) + (p.length : Int) - (i : Int) = (p.length : Int) := by omega
          by_cases h12 : 12 < p.length
          · have h13 : (12 : Int) < (p.length : Int) := by omega
            have HG : Hid (wordS (tl s i) = .bad 7) := by show _ = _; rw [HN.out, if_pos h12]
            have K := HK1.out
            have r0 := K.c0
            have r1 := K.c1
            have r2 := K.c2
            have r3 := K.c3
            have r4 := K.c4
            have f0 := K.fr 0
            have f1 := K.fr 1
            have f2 := K.fr 2
            have f3 := K.fr 3
            have f4 := K.fr 4
            go_wp2_with fail
            have F := K.set5 (.int .i64 0) (.int .i64 0) (.int .i64 0) (.string ⟨#[]⟩) (.int .i64 0)
            have q0 := F.c0
            have q1 := F.c1
            have q2 := F.c2
            have q3 := F.c3
            have q4 := F.c4
            refine bodyPost_ret (v := .tuple #[tokZ, .int .i64 0, .int .i64 7]) (by simp [results, Tryz.results17, go_sem, tokZ, q0, q1, q2, q3, q4]) rfl (HW.out _ HG.out _ _ ⟨bel_set5 HB1.out (Nat.le_refl _) _ _ _ _ _, ?_⟩)
            exact rfl
          · have h13 : ¬ (12 : Int) < (p.length : Int) := by omega
            have HG : Hid (wordS (tl s i) = .ok ⟨3, 0, 0, p⟩ p.length) := by show _ = _; rw [HN.out, if_neg h12]
            have K := HK1.out
            have r0 := K.c0
            have r1 := K.c1
            have r2 := K.c2
            have r3 := K.c3
            have r4 := K.c4
            have f0 := K.fr 0
            have f1 := K.fr 1
            have f2 := K.fr 2
            have f3 := K.fr 3
            have f4 := K.fr 4
            go_wp2_with fail
            have F := K.set5 (.int .i64 3) (.int .i64 0) (.int .i64 0) (.string (s.extract i (i + p.length))) (.int .i64 i)
            have q0 := F.c0
            have q1 := F.c1
            have q2 := F.c2
            have q3 := F.c3
            have q4 := F.c4
            refine bodyPost_ret (v := .tuple #[.agg #[.int .i64 3, .int .i64 0, .int .i64 0, .string (s.extract i (i + p.length)), .int .i64 i], .int .i64 ((i : Int) + (p.length : Int)), .int .i64 0]) (by simp [results, Tryz.results17, go_sem, q0, q1, q2, q3, q4]) rfl (HW.out _ HG.out _ _ ⟨bel_set5 HB1.out (Nat.le_refl _) _ _ _ _ _, ?_⟩)
            show _ = _
            rw [HS.out, Int.natCast_add]
            rfl
set_option maxRecDepth 100000 in
set_option maxHeartbeats 4000000 in
theorem rw_quo (s : ByteArray) (i : Nat) (hi : i < s.size) (hs : s.size ≤ 100000) (w : World) (HW : Hid (∀ W, wordS (tl s i) = W → ∀ e w', RwP W i w e w' → RwP (wordS (tl s i)) i w e w')) (HM : Hid (minusB.isPrefixOf (tl s i) = false)) (hd : dgI (bt s i) = false) (HL : Hid (ltI (bt s i) = false)) (h39 : bt s i = 39) (HN : Hid (wordS (tl s i) = chrS (tl s (i + 1)))) :
    Calls Tryz.prog 17 #[.string s, .int .i64 i] w (RwP (wordS (tl s i)) i w) := by
  have t39 : ((bt s i : Int) == 39) = true := by rw [beq_iff_eq]; omega
  clear h39
  have HX : Hid (i < s.size → dgI (bt s i) = false) := fun _ => hd
  clear hd
  have HK : Hid (Tbx (w.alloc (.cells #[.int .i64 0, .int .i64 0, .int .i64 0, .string ⟨#[]⟩, .int .i64 0] 35)) w.heap.size (.int .i64 0) (.int .i64 0) (.int .i64 0) (.string ⟨#[]⟩) (.int .i64 0)) := Tbx.new w _ _ _ _ _
  have HB : Hid (Below w.heap.size w (w.alloc (.cells #[.int .i64 0, .int .i64 0, .int .i64 0, .string ⟨#[]⟩, .int .i64 0] 35))) := (Below.refl _ w).alloc (Nat.le_refl _) _
  have hcb := begins_any s ⟨#[194, 175]⟩ i (by omega) (by omega) (by decide)
  rw [tl_zero] at hcb
  go_enter Tryz.func17, Tryz.ntmps17
  go_wp2_with fail
  refine (hcb _).mono ?_
  rintro e w1 ⟨rfl, hB1⟩
  rw [show (⟨#[194, 175]⟩ : ByteArray).data.toList.isPrefixOf (tl s i) = _ from HM.out]
  have HK1 : Hid (Tbx w1 w.heap.size (.int .i64 0) (.int .i64 0) (.int .i64 0) (.string ⟨#[]⟩) (.int .i64 0)) := HK.out.go hB1
  have HB1 : Hid (Below w.heap.size w w1) := HB.out.trans (hB1.mono HB.out.size)
  clear hB1 hcb
  go_wp2_with fail
  go_loopw [9] (fun v wr => v = .int .i64 (i : Int) ∧ w1 = wr) (fun v _ => 0)
  case atStart => exact ⟨rfl, rfl⟩
  case round =>
    obtain ⟨rfl, rfl⟩ := hrel
    have ge := hi
    have g2 := HX.out ge
    have hix := index_at s i (i : Int) rfl ge
    have g3 : (i : Int) < (s.size : Int) := by omega
    go_wp2_with fail
    refine (rdig_any _ _).mono ?_
    rintro e w' ⟨rfl, hw'⟩
    obtain rfl := hw'.symm
    rw [g2]
    clear g2
    go_wp2_with fail
    refine (rlet_any _ _).mono ?_
    rintro e w' ⟨rfl, hw'⟩
    obtain rfl := hw'.symm
    rw [HL.out]
    obtain ⟨W, hw⟩ : ∃ W, W = chrS (tl s (i + 1)) := ⟨_, rfl⟩
    have HG : Hid (wordS (tl s i) = W) := by show _ = _; rw [HN.out, hw]
    have hcq := quoted_any s i hi hs
    rw [← hw] at hcq
    clear hw HN
    go_wp2_with fail
    refine (hcq _).mono ?_
    rintro e w2 ⟨hB2, hE⟩
    have HK2 : Hid (Tbx w2 w.heap.size (.int .i64 0) (.int .i64 0) (.int .i64 0) (.string ⟨#[]⟩) (.int .i64 0)) := HK1.out.go hB2
    have HB2 : Hid (Below w.heap.size w w2) := HB1.out.trans (hB2.mono HB1.out.size)
    clear hB2 hcq
    cases W with
    | error c =>
      obtain rfl := hE
      simp only [tokZ]
      have K := HK2.out
      have r0 := K.c0
      have r1 := K.c1
      have r2 := K.c2
      have r3 := K.c3
      have r4 := K.c4
      have f0 := K.fr 0
      have f1 := K.fr 1
      have f2 := K.fr 2
      have f3 := K.fr 3
      have f4 := K.fr 4
      go_wp2_with fail
      have F := K.set5 (.int .i64 0) (.int .i64 0) (.int .i64 0) (.string ⟨#[]⟩) (.int .i64 0)
      have q0 := F.c0
      have q1 := F.c1
      have q2 := F.c2
      have q3 := F.c3
      have q4 := F.c4
      refine bodyPost_ret (v := .tuple #[tokZ, .int .i64 0, .int .i64 c]) (by simp [results, Tryz.results17, go_sem, tokZ, q0, q1, q2, q3, q4]) rfl (HW.out _ HG.out _ _ ⟨bel_set5 HB2.out (Nat.le_refl _) _ _ _ _ _, ?_⟩)
      exact rfl
    | ok tn =>
      obtain ⟨t, n⟩ := tn
      obtain rfl := hE
      obtain ⟨tk, tf, tn, tt⟩ := t
      simp only [tokV]
      have K := HK2.out
      have r0 := K.c0
      have r1 := K.c1
      have r2 := K.c2
      have r3 := K.c3
      have r4 := K.c4
      have f0 := K.fr 0
      have f1 := K.fr 1
      have f2 := K.fr 2
      have f3 := K.fr 3
      have f4 := K.fr 4
      go_wp2_with fail
      have F := K.set5 (.int .i64 tk) (.int .i64 tf) (.int .i64 tn) (.string ⟨tt.toArray⟩) (.int .i64 i)
      have q0 := F.c0
      have q1 := F.c1
      have q2 := F.c2
      have q3 := F.c3
      have q4 := F.c4
      refine bodyPost_ret (v := .tuple #[tokV ⟨tk, tf, tn, tt⟩ i, .int .i64 ((i + n : Nat) : Int), .int .i64 0]) (by simp [results, Tryz.results17, go_sem, tokV, q0, q1, q2, q3, q4]) rfl (HW.out _ HG.out _ _ ⟨bel_set5 HB2.out (Nat.le_refl _) _ _ _ _ _, ?_⟩)
      exact rfl
theorem sgn_short {tab : List (List UInt8)} (ht : TabOk tab) {l : List UInt8} {k n : Nat} (h : firstS tab l 0 = some (k, n)) : n ≤ 3 := by
  obtain ⟨_, h2, _, h4⟩ := first_in _ _ _ _ _ h
  rw [Nat.sub_zero] at h4
  rw [Nat.zero_add] at h2
  have hg : tab.getD k [] = tab[k] := by rw [List.getD_eq_getElem?_getD, List.getElem?_eq_getElem h2]; rfl
  rw [h4, hg, ht _ (List.getElem_mem h2)]
  exact (wid_pos _).2
set_option maxRecDepth 100000 in
set_option maxHeartbeats 4000000 in
theorem rw_sig (s : ByteArray) (i : Nat) (hi : i < s.size) (hs : s.size ≤ 100000) (w : World) (HW : Hid (∀ W, wordS (tl s i) = W → ∀ e w', RwP W i w e w' → RwP (wordS (tl s i)) i w e w')) (HM : Hid (minusB.isPrefixOf (tl s i) = false)) (hd : dgI (bt s i) = false) (HL : Hid (ltI (bt s i) = false)) (h39 : ¬ bt s i = 39) (HN : Hid (wordS (tl s i) = sigS (tl s i))) :
    Calls Tryz.prog 17 #[.string s, .int .i64 i] w (RwP (wordS (tl s i)) i w) := by
  have HX : Hid (i < s.size → dgI (bt s i) = false) := fun _ => hd
  clear hd
  have HK : Hid (Tbx (w.alloc (.cells #[.int .i64 0, .int .i64 0, .int .i64 0, .string ⟨#[]⟩, .int .i64 0] 35)) w.heap.size (.int .i64 0) (.int .i64 0) (.int .i64 0) (.string ⟨#[]⟩) (.int .i64 0)) := Tbx.new w _ _ _ _ _
  have HB : Hid (Below w.heap.size w (w.alloc (.cells #[.int .i64 0, .int .i64 0, .int .i64 0, .string ⟨#[]⟩, .int .i64 0] 35))) := (Below.refl _ w).alloc (Nat.le_refl _) _
  have hcb := begins_any s ⟨#[194, 175]⟩ i (by omega) (by omega) (by decide)
  rw [tl_zero] at hcb
  go_enter Tryz.func17, Tryz.ntmps17
  go_wp2_with fail
  refine (hcb _).mono ?_
  rintro e w1 ⟨rfl, hB1⟩
  rw [show (⟨#[194, 175]⟩ : ByteArray).data.toList.isPrefixOf (tl s i) = _ from HM.out]
  have HK1 : Hid (Tbx w1 w.heap.size (.int .i64 0) (.int .i64 0) (.int .i64 0) (.string ⟨#[]⟩) (.int .i64 0)) := HK.out.go hB1
  have HB1 : Hid (Below w.heap.size w w1) := HB.out.trans (hB1.mono HB.out.size)
  clear hB1 hcb
  go_wp2_with fail
  go_loopw [9] (fun v wr => v = .int .i64 (i : Int) ∧ w1 = wr) (fun v _ => 0)
  case atStart => exact ⟨rfl, rfl⟩
  case round =>
    obtain ⟨rfl, rfl⟩ := hrel
    have ge := hi
    have g2 := HX.out ge
    have hix := index_at s i (i : Int) rfl ge
    have g3 : (i : Int) < (s.size : Int) := by omega
    go_wp2_with fail
    refine (rdig_any _ _).mono ?_
    rintro e w' ⟨rfl, hw'⟩
    obtain rfl := hw'.symm
    rw [g2]
    clear g2
    go_wp2_with fail
    refine (rlet_any _ _).mono ?_
    rintro e w' ⟨rfl, hw'⟩
    obtain rfl := hw'.symm
    rw [HL.out]
    have t39 : ((bt s i : Int) == 39) = false := by rw [beq_eq_false_iff_ne]; omega
    go_wp2_with fail
    refine (rsign_any glyB glyB_ok (by decide) s _ (by decide) (by decide) i (Nat.le_of_lt hi) (by omega) _).mono ?_
    rintro e w2 ⟨rfl, hB2⟩
    have HK2 : Hid (Tbx w2 w.heap.size (.int .i64 0) (.int .i64 0) (.int .i64 0) (.string ⟨#[]⟩) (.int .i64 0)) := HK1.out.go hB2
    have HB2 : Hid (Below w.heap.size w w2) := HB1.out.trans (hB2.mono HB1.out.size)
    clear hB2
    cases hg : firstS glyB (tl s i) 0 with
    | some x =>
      obtain ⟨k, n⟩ := x
      obtain ⟨y1, y2⟩ := sg_some hg
      have hk := (first_in _ _ _ _ _ hg).2.1
      rw [show glyB.length = 34 from rfl] at hk
      have hn := sgn_short glyB_ok hg
      have HG : Hid (wordS (tl s i) = .ok ⟨4, (k : Int) + 1, 0, []⟩ n) := by show _ = _; rw [HN.out]; unfold sigS; rw [hg]
      rw [y1, y2]
      clear y1 y2 hg HN
      have hp1 : (0 : Int) < (k : Int) + 1 := by omega
      have K := HK2.out
      have r0 := K.c0
      have r1 := K.c1
      have r2 := K.c2
      have r3 := K.c3
      have r4 := K.c4
      have f0 := K.fr 0
      have f1 := K.fr 1
      have f2 := K.fr 2
      have f3 := K.fr 3
      have f4 := K.fr 4
      go_wp2_with fail
      have F := K.set5 (.int .i64 4) (.int .i64 ((k : Int) + 1)) (.int .i64 0) (.string ⟨#[]⟩) (.int .i64 i)
      have q0 := F.c0
      have q1 := F.c1
      have q2 := F.c2
      have q3 := F.c3
      have q4 := F.c4
      refine bodyPost_ret (v := .tuple #[tokV ⟨4, (k : Int) + 1, 0, []⟩ i, .int .i64 ((i : Int) + (n : Int)), .int .i64 0]) (by simp [results, Tryz.results17, go_sem, tokV, q0, q1, q2, q3, q4]) rfl (HW.out _ HG.out _ _ ⟨bel_set5 HB2.out (Nat.le_refl _) _ _ _ _ _, ?_⟩)
      show _ = _
      rw [Int.natCast_add]
    | none =>
      obtain ⟨y1, y2⟩ := sg_none hg
      rw [y1, y2]
      clear y1 y2
      go_wp2_with fail
      refine (rsign_any sgnB sgnB_ok (by decide) s _ (by decide) (by decide) i (Nat.le_of_lt hi) (by omega) _).mono ?_
      rintro e w3 ⟨rfl, hB3⟩
      have HK3 : Hid (Tbx w3 w.heap.size (.int .i64 0) (.int .i64 0) (.int .i64 0) (.string ⟨#[]⟩) (.int .i64 0)) := HK2.out.go hB3
      have HB3 : Hid (Below w.heap.size w w3) := HB2.out.trans (hB3.mono HB2.out.size)
      clear hB3
      cases hs2 : firstS sgnB (tl s i) 0 with
      | some x =>
        obtain ⟨k, n⟩ := x
        obtain ⟨y1, y2⟩ := sg_some hs2
        have hk := (first_in _ _ _ _ _ hs2).2.1
        rw [show sgnB.length = 16 from rfl] at hk
        have hn := sgn_short sgnB_ok hs2
        have HG : Hid (wordS (tl s i) = .ok ⟨(k : Int) + 5, 0, 0, []⟩ n) := by show _ = _; rw [HN.out]; unfold sigS; rw [hg]; simp only; rw [hs2]
        rw [y1, y2]
        clear y1 y2 hg hs2 HN
        have hp1 : (0 : Int) < (k : Int) + 1 := by omega
        have hp5 : 4 + ((k : Int) + 1) = (k : Int) + 5 := by omega
        have K := HK3.out
        have r0 := K.c0
        have r1 := K.c1
        have r2 := K.c2
        have r3 := K.c3
        have r4 := K.c4
        have f0 := K.fr 0
        have f1 := K.fr 1
        have f2 := K.fr 2
        have f3 := K.fr 3
        have f4 := K.fr 4
        go_wp2_with fail
        have F := K.set5 (.int .i64 ((k : Int) + 5)) (.int .i64 0) (.int .i64 0) (.string ⟨#[]⟩) (.int .i64 i)
        have q0 := F.c0
        have q1 := F.c1
        have q2 := F.c2
        have q3 := F.c3
        have q4 := F.c4
        refine bodyPost_ret (v := .tuple #[tokV ⟨(k : Int) + 5, 0, 0, []⟩ i, .int .i64 ((i : Int) + (n : Int)), .int .i64 0]) (by simp [results, Tryz.results17, go_sem, tokV, q0, q1, q2, q3, q4]) rfl (HW.out _ HG.out _ _ ⟨bel_set5 HB3.out (Nat.le_refl _) _ _ _ _ _, ?_⟩)
        show _ = _
        rw [Int.natCast_add]
      | none =>
        obtain ⟨y1, y2⟩ := sg_none hs2
        have HG : Hid (wordS (tl s i) = .bad 1) := by show _ = _; rw [HN.out]; unfold sigS; rw [hg]; simp only; rw [hs2]
        rw [y1, y2]
        clear y1 y2 hg hs2 HN
        have K := HK3.out
        have r0 := K.c0
        have r1 := K.c1
        have r2 := K.c2
        have r3 := K.c3
        have r4 := K.c4
        have f0 := K.fr 0
        have f1 := K.fr 1
        have f2 := K.fr 2
        have f3 := K.fr 3
        have f4 := K.fr 4
        go_wp2_with fail
        have F := K.set5 (.int .i64 0) (.int .i64 0) (.int .i64 0) (.string ⟨#[]⟩) (.int .i64 0)
        have q0 := F.c0
        have q1 := F.c1
        have q2 := F.c2
        have q3 := F.c3
        have q4 := F.c4
        refine bodyPost_ret (v := .tuple #[tokZ, .int .i64 0, .int .i64 1]) (by simp [results, Tryz.results17, go_sem, tokZ, q0, q1, q2, q3, q4]) rfl (HW.out _ HG.out _ _ ⟨bel_set5 HB3.out (Nat.le_refl _) _ _ _ _ _, ?_⟩)
        exact rfl
theorem rword_any (s : ByteArray) (i : Nat) (hi : i < s.size) (hs : s.size ≤ 100000) (w : World) :
    Calls Tryz.prog 17 #[.string s, .int .i64 i] w (RwP (wordS (tl s i)) i w) := by
  have HW : Hid (∀ W, wordS (tl s i) = W → ∀ e w', RwP W i w e w' → RwP (wordS (tl s i)) i w e w') := fun W h e w' h2 => by rw [h]; exact h2
  have hc := tl_cons hi
  have hb := bt_getD s i
  generalize s.data.toList.getD i 0 = b at hc hb
  by_cases hm : minusB.isPrefixOf (tl s i) = true
  · have hN := word_num hm
    rw [tl_drop] at hN
    have hsz : i + 2 ≤ s.size := by
      obtain ⟨r, hr⟩ := minus_split hm
      have := congrArg List.length hr
      rw [tl_len, List.length_cons, List.length_cons] at this; omega
    by_cases hq : (tl s (i + 2)).takeWhile isDg = []
    · exact rw_min s i hi hs w HW hm (i + 2) rfl hsz hq (by show _ = _; rw [hN, hq]; rfl)
    · exact rw_num s i hi hs w HW true hm (i + 2) rfl hsz _ rfl hq hN
  · have hm2 : minusB.isPrefixOf (tl s i) = false := Bool.eq_false_iff.2 hm
    have hN := wordS_cons (b := b) (r := tl s (i + 1)) (by rw [← hc]; exact hm2)
    by_cases hd : isDg b = true
    · have hN2 := word_dig (b := b) (r := tl s (i + 1)) (by rw [← hc]; exact hm2) hd
      rw [← hc] at hN2
      refine rw_num s i hi hs w HW false hm2 i rfl (Nat.le_of_lt hi) _ rfl ?_ hN2
      rw [hc]
      intro e
      have := tk_pos (p := isDg) (r := tl s (i + 1)) hd
      rw [e] at this; simp at this
    · rw [if_neg hd, ← hc] at hN
      have hd2 : dgI (bt s i) = false := by rw [← hb, dgI_is]; exact Bool.eq_false_iff.2 hd
      by_cases hl : isLt b = true
      · rw [if_pos hl] at hN
        exact rw_let s i hi hs w HW hm2 hd2 (by show _ = _; rw [← hb, ltI_is]; exact hl) _ rfl hN
      · rw [if_neg hl] at hN
        have hl2 : Hid (ltI (bt s i) = false) := by show _ = _; rw [← hb, ltI_is]; exact Bool.eq_false_iff.2 hl
        by_cases h39 : b.toNat = 39
        · rw [if_pos h39] at hN
          exact rw_quo s i hi hs w HW hm2 hd2 hl2 (hb.symm.trans h39) hN
        · rw [if_neg h39] at hN
          exact rw_sig s i hi hs w HW hm2 hd2 hl2 (by rw [← hb]; exact h39) hN
end Go.Proofs.YthfdpfekjcdlbaaGreatDoor
