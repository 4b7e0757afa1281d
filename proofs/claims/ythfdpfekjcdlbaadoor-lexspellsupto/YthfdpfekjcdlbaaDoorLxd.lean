/-
  The program finds a sign among signs, and reads a word that is one.
-/
import Derived.Lib.OthersKept
import Derived.Laws.RangeString
import Derived.Test.YthfdpfekjcdlbaaDoorLxq
import Derived.Test.YthfdpfekjcdlbaaDoorLxc
namespace Go.Proofs.YthfdpfekjcdlbaaDoor
open Go.RowKit Go.Lib
set_option linter.unusedVariables false

theorem tabs_go {g a : Nat} {w w' : World} (h : Lib.Utf8Tabs g a w) (hB : Below w.heap.size w w') : Lib.Utf8Tabs g a w' := by
  have h1 := World.block_lt_of_cell? w _ (h.1 0 (by decide))
  have h2 := World.block_lt_of_cell? w _ (h.2 0 (by decide)).1
  exact ⟨fun c hc => (hB.cell (p := ⟨_, c, none⟩) h1).trans (h.1 c hc), fun i hi => ⟨(hB.cell (p := ⟨_, 2 * i, none⟩) h2).trans (h.2 i hi).1, (hB.cell (p := ⟨_, 2 * i + 1, none⟩) h2).trans (h.2 i hi).2⟩⟩
set_option maxRecDepth 100000 in
set_option maxHeartbeats 4000000 in
theorem place_any (r : Int) (s : ByteArray) (hs : s.size ≤ 100000) (hv : validD (tl s 0) = true) (w : World) :
    Calls Tryd.prog 66 #[.int .i32 r, .string s] w fun e w' => e = .returned (.int .i64 (plI r (runesL (tl s 0)))) ∧ Below w.heap.size w w' := by
  have HV : Hid (validD (tl s 0) = true) := hv
  clear hv
  go_enter Tryd.func66, Tryd.ntmps66
  go_wp2_with fail
  go_loopw [5] (fun v wr => ∃ (pos : Nat) (xs : List Int), Hid (Rd s pos xs) ∧ Hid (r ∉ xs) ∧ v = .int .i64 xs.length ∧ wr.heap[w.heap.size]? = some (.stringIter s pos) ∧ Below w.heap.size w wr) (fun _ wr => s.size - wr.iterPos w.heap.size)
  case atStart =>
    exact ⟨0, [], Rd.zero s, (by simp : r ∉ []), rfl, World.iter_heap w s 0, (Below.refl _ w).alloc (Nat.le_refl _) _⟩
  case round =>
    obtain ⟨pos, xs, HR, HN, rfl, hit, hB⟩ := hrel
    have HB : Hid (Below w.heap.size w wr) := hB
    clear hB
    have hxl := HR.out.2.2.2
    have hpl := HR.out.1
    by_cases hp : pos < s.size
    · obtain ⟨c, m, hd, hc, hok⟩ := HR.out.step hp HV.out
      have hnx : ∀ ty, (Instr.next (.pointer (some ⟨w.heap.size, 0, none⟩)) true ty).run Tryd.prog wr = _ := fun ty => Lib.run_next_any_at wr w.heap.size s pos ty hit hp
      rw [hd] at hnx
      dsimp only at hnx
      have hit2 := Lib.iterAt_heap wr w.heap.size s pos (pos + (m + 1)) hit
      have hB2 : Hid (Below w.heap.size w (wr.iterAt w.heap.size s (pos + (m + 1)))) := Lib.below_iterAt HB.out (k := w.heap.size) (Nat.le_refl _) s (pos + (m + 1))
      have HX : Hid (Rd s (pos + (m + 1)) (xs ++ [(c : Int)])) := HR.out.next hp hok
      have HI : Hid (wr.heap[w.heap.size]? = some (.stringIter s pos)) := hit
      have HRR : Hid (runesL (tl s 0) = xs ++ (c : Int) :: runesL (tl s (pos + (m + 1)))) := by
        show _ = _
        rw [HR.out.2.1, hok.runes hp]
      clear hok hd hit
      obtain ⟨wi, hwi⟩ : ∃ wi, wi = wr.iterAt w.heap.size s (pos + (m + 1)) := ⟨_, rfl⟩
      rw [← hwi] at hnx hit2 hB2
      clear hwi
      by_cases he : (c : Int) = r
      · have HE : Hid (plI r (runesL (tl s 0)) = xs.length) := by
          show _ = _
          rw [HRR.out, he]; exact plI_at r xs _ HN.out
        have te : ((c : Int) == r) = true := by rw [beq_iff_eq]; exact he
        go_wp2_with fail
        go_ret
        exact ⟨ret1 HE.out.symm, hB2.out⟩
      · have HE : Hid (r ∉ xs ++ [(c : Int)]) := by
          show ¬ _
          rw [List.mem_append, List.mem_singleton, not_or]; exact ⟨HN.out, fun q => he q.symm⟩
        have te : ((c : Int) == r) = false := by rw [beq_eq_false_iff_ne]; exact he
        go_wp2_with fail
        refine ⟨⟨pos + (m + 1), xs ++ [(c : Int)], HX, HE, by rw [List.length_append, List.length_singleton, Int.natCast_add]; rfl, hit2, hB2.out⟩, ?_⟩
        simp only [World.iterPos, hit2, HI.out]
        omega
    · have hnx : ∀ ty, (Instr.next (.pointer (some ⟨w.heap.size, 0, none⟩)) true ty).run Tryd.prog wr = _ := fun ty => Lib.run_next_end_at wr w.heap.size s pos ty hit hp
      have HE : Hid (plI r (runesL (tl s 0)) = -1) := by
        show _ = _
        rw [HR.out.done hp]; exact plI_no r xs HN.out
      go_wp2_with fail
      go_ret
      exact ⟨ret1 HE.out.symm, HB.out⟩
set_option maxRecDepth 100000 in
theorem gly_const : validD glyB.flatten = true ∧ runesL glyB.flatten = glyR := by decide +kernel
set_option maxRecDepth 100000 in
theorem sgn_const : validD sgnB.flatten = true ∧ runesL sgnB.flatten = sgnR := by decide +kernel
theorem place_gly (r : Int) (s : ByteArray) (h : s.data.toList = glyB.flatten) (w : World) :
    Calls Tryd.prog 66 #[.int .i32 r, .string s] w fun e w' => e = .returned (.int .i64 (plI r glyR)) ∧ Below w.heap.size w w' := by
  have hz : s.size ≤ 100000 := by rw [size_eq, h]; decide
  have := place_any r s hz (by rw [tl_zero, h]; exact gly_const.1) w
  rw [tl_zero, h, gly_const.2] at this
  exact this
theorem place_sgn (r : Int) (s : ByteArray) (h : s.data.toList = sgnB.flatten) (w : World) :
    Calls Tryd.prog 66 #[.int .i32 r, .string s] w fun e w' => e = .returned (.int .i64 (plI r sgnR)) ∧ Below w.heap.size w w' := by
  have hz : s.size ≤ 100000 := by rw [size_eq, h]; decide
  have := place_any r s hz (by rw [tl_zero, h]; exact sgn_const.1) w
  rw [tl_zero, h, sgn_const.2] at this
  exact this
theorem dec_any (t : ByteArray) (ht : t.data.toList ≠ []) (w : World) (hT : Lib.Utf8Tabs (Tryd.laysValid_ren.g 3) (Tryd.laysValid_ren.g 4) w) :
    Calls Tryd.prog 65 #[.string t] w fun e w' => e = .returned (.tuple #[.int .i32 ((decodeL t.data.toList).1 : Int), .int .i64 ((decodeL t.data.toList).2 : Int)]) ∧ Below w.heap.size w w' := by
  have h := Tryd.utf8_DecodeRuneInString t w hT
  have e : decodeGo t = decodeL t.data.toList := by
    unfold decodeGo
    rw [if_neg (fun q => ht (List.length_eq_zero_iff.1 (by rw [← size_eq]; exact q)))]
    exact (decodeL_drop t 0).symm
  rw [e] at h
  exact h
set_option maxRecDepth 100000 in
set_option maxHeartbeats 4000000 in
theorem sign_any (s : ByteArray) (i : Nat) (hi : i < s.size) (hs : s.size ≤ 100000) (w : World) (hT : Lib.Utf8Tabs (Tryd.laysValid_ren.g 3) (Tryd.laysValid_ren.g 4) w) :
    Calls Tryd.prog 40 #[.string s, .int .i64 i] w (WdP (sigS (tl s i)) i w) := by
  have hne : tl s i ≠ [] := tl_ne hi
  have hw := decodeL_le (tl s i) hne
  rw [sigS_dec hne]
  have hl : (tl s i).length = s.size - i := by rw [tl, List.length_drop, ← size_eq]
  have hT1 : Lib.Utf8Tabs (Tryd.laysValid_ren.g 3) (Tryd.laysValid_ren.g 4) (w.alloc (.cells #[.int .i64 0, .int .i64 0, .int .i64 0, .string ⟨#[]⟩, .int .i64 0] 29)) := tabs_go hT ((Below.refl _ w).alloc (Nat.le_refl _) _)
  have hc := dec_any (s.extract i s.size) (by rw [sx_list]; exact hne) _ hT1
  rw [sx_list] at hc
  have HK : Hid (Tbx (w.alloc (.cells #[.int .i64 0, .int .i64 0, .int .i64 0, .string ⟨#[]⟩, .int .i64 0] 29)) w.heap.size (.int .i64 0) (.int .i64 0) (.int .i64 0) (.string ⟨#[]⟩) (.int .i64 0)) := Tbx.new w _ _ _ _ _
  have HB : Hid (Below w.heap.size w (w.alloc (.cells #[.int .i64 0, .int .i64 0, .int .i64 0, .string ⟨#[]⟩, .int .i64 0] 29))) := (Below.refl _ w).alloc (Nat.le_refl _) _
  generalize (decodeL (tl s i)).1 = c at *
  generalize (decodeL (tl s i)).2 = n at *
  obtain ⟨a, ha⟩ : ∃ a, a = plI (c : Int) glyR := ⟨_, rfl⟩
  obtain ⟨b, hb⟩ : ∃ b, b = plI (c : Int) sgnR := ⟨_, rfl⟩
  have g1 := plI_ge (c : Int) glyR
  have g2 := plI_ge (c : Int) sgnR
  have l1 := plI_lt (c : Int) glyR
  have l2 := plI_lt (c : Int) sgnR
  rw [show glyR.length = 34 from rfl] at l1
  rw [show sgnR.length = 16 from rfl] at l2
  rw [← ha] at g1 l1 ⊢
  rw [← hb] at g2 l2 ⊢
  have EA : Hid (plI (c : Int) glyR = a) := ha.symm
  have EB : Hid (plI (c : Int) sgnR = b) := hb.symm
  clear ha hb
  have HB1 := HB.out.size
  rcases g1 with g1 | g1
  · have NA : ¬ 0 ≤ a := by omega
    rw [if_neg NA]
    rcases g2 with g2 | g2
    · have NB : ¬ 0 ≤ b := by omega
      rw [if_neg NB]
      go_enter Tryd.func40, Tryd.ntmps40
      go_wp2_with fail
      refine hc.mono ?_
      rintro e w1 ⟨rfl, hB1⟩
      have B1 : Hid (Below w.heap.size w w1) := HB.out.trans (hB1.mono HB1)
      have HK1 : Hid (Tbx w1 w.heap.size (.int .i64 0) (.int .i64 0) (.int .i64 0) (.string ⟨#[]⟩) (.int .i64 0)) := HK.out.go hB1
      clear hB1 hc hT hT1
      go_wp2_with fail
      refine (place_gly (c : Int) _ rfl _).mono ?_
      rintro e w2 ⟨rfl, hB2⟩
      rw [EA.out]
      have B2 : Hid (Below w.heap.size w w2) := B1.out.trans (hB2.mono B1.out.size)
      have HK2 : Hid (Tbx w2 w.heap.size (.int .i64 0) (.int .i64 0) (.int .i64 0) (.string ⟨#[]⟩) (.int .i64 0)) := HK1.out.go hB2
      clear hB2
      go_wp2_with fail
      refine (place_sgn (c : Int) _ rfl _).mono ?_
      rintro e w3 ⟨rfl, hB3⟩
      rw [EB.out]
      have B3 : Hid (Below w.heap.size w w3) := B2.out.trans (hB3.mono B2.out.size)
      have HK3 : Hid (Tbx w3 w.heap.size (.int .i64 0) (.int .i64 0) (.int .i64 0) (.string ⟨#[]⟩) (.int .i64 0)) := HK2.out.go hB3
      clear hB3
      go_wp2_with fail
      exact ⟨rfl, B3.out, rfl⟩
    · rw [if_pos g2]
      go_enter Tryd.func40, Tryd.ntmps40
      go_wp2_with fail
      refine hc.mono ?_
      rintro e w1 ⟨rfl, hB1⟩
      have B1 : Hid (Below w.heap.size w w1) := HB.out.trans (hB1.mono HB1)
      have HK1 : Hid (Tbx w1 w.heap.size (.int .i64 0) (.int .i64 0) (.int .i64 0) (.string ⟨#[]⟩) (.int .i64 0)) := HK.out.go hB1
      clear hB1 hc hT hT1
      go_wp2_with fail
      refine (place_gly (c : Int) _ rfl _).mono ?_
      rintro e w2 ⟨rfl, hB2⟩
      rw [EA.out]
      have B2 : Hid (Below w.heap.size w w2) := B1.out.trans (hB2.mono B1.out.size)
      have HK2 : Hid (Tbx w2 w.heap.size (.int .i64 0) (.int .i64 0) (.int .i64 0) (.string ⟨#[]⟩) (.int .i64 0)) := HK1.out.go hB2
      clear hB2
      go_wp2_with fail
      refine (place_sgn (c : Int) _ rfl _).mono ?_
      rintro e w3 ⟨rfl, hB3⟩
      rw [EB.out]
      have B3 : Hid (Below w.heap.size w w3) := B2.out.trans (hB3.mono B2.out.size)
      have HK3 : Hid (Tbx w3 w.heap.size (.int .i64 0) (.int .i64 0) (.int .i64 0) (.string ⟨#[]⟩) (.int .i64 0)) := HK2.out.go hB3
      clear hB3
      have r0 := HK3.out.c0
      have r1 := HK3.out.c1
      have r2 := HK3.out.c2
      have r3 := HK3.out.c3
      have r4 := HK3.out.c4
      have f0 := HK3.out.fr 0
      have f1 := HK3.out.fr 1
      have f2 := HK3.out.fr 2
      have f3 := HK3.out.fr 3
      have f4 := HK3.out.fr 4
      go_wp2_with fail
      have F := HK3.out.set5 (.int .i64 (5 + b)) (.int .i64 0) (.int .i64 0) (.string ⟨#[]⟩) (.int .i64 i)
      have q0 := F.c0
      have q1 := F.c1
      have q2 := F.c2
      have q3 := F.c3
      have q4 := F.c4
      refine bodyPost_ret (v := .tuple #[tokV ⟨(5 + b), 0, 0, []⟩ i, .int .i64 ((i : Int) + (n : Int))]) (by simp [results, Tryd.results40, go_sem, tokV, q0, q1, q2, q3, q4]) rfl ⟨bel_set5 B3.out (Nat.le_refl _) _ _ _ _ _, ?_⟩
      show _ = _
      rw [Int.natCast_add]
  · rw [if_pos g1]
    go_enter Tryd.func40, Tryd.ntmps40
    go_wp2_with fail
    refine hc.mono ?_
    rintro e w1 ⟨rfl, hB1⟩
    have B1 : Hid (Below w.heap.size w w1) := HB.out.trans (hB1.mono HB1)
    have HK1 : Hid (Tbx w1 w.heap.size (.int .i64 0) (.int .i64 0) (.int .i64 0) (.string ⟨#[]⟩) (.int .i64 0)) := HK.out.go hB1
    clear hB1 hc hT hT1
    go_wp2_with fail
    refine (place_gly (c : Int) _ rfl _).mono ?_
    rintro e w2 ⟨rfl, hB2⟩
    rw [EA.out]
    have B2 : Hid (Below w.heap.size w w2) := B1.out.trans (hB2.mono B1.out.size)
    have HK2 : Hid (Tbx w2 w.heap.size (.int .i64 0) (.int .i64 0) (.int .i64 0) (.string ⟨#[]⟩) (.int .i64 0)) := HK1.out.go hB2
    clear hB2
    have r0 := HK2.out.c0
    have r1 := HK2.out.c1
    have r2 := HK2.out.c2
    have r3 := HK2.out.c3
    have r4 := HK2.out.c4
    have f0 := HK2.out.fr 0
    have f1 := HK2.out.fr 1
    have f2 := HK2.out.fr 2
    have f3 := HK2.out.fr 3
    have f4 := HK2.out.fr 4
    go_wp2_with fail
    have F := HK2.out.set5 (.int .i64 4) (.int .i64 (1 + a)) (.int .i64 0) (.string ⟨#[]⟩) (.int .i64 i)
    have q0 := F.c0
    have q1 := F.c1
    have q2 := F.c2
    have q3 := F.c3
    have q4 := F.c4
    refine bodyPost_ret (v := .tuple #[tokV ⟨4, (1 + a), 0, []⟩ i, .int .i64 ((i : Int) + (n : Int))]) (by simp [results, Tryd.results40, go_sem, tokV, q0, q1, q2, q3, q4]) rfl ⟨bel_set5 B2.out (Nat.le_refl _) _ _ _ _ _, ?_⟩
    show _ = _
    rw [Int.natCast_add]
end Go.Proofs.YthfdpfekjcdlbaaDoor
