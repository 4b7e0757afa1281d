
/-
  The program's sign at a place; what the texts of numbers lean on; a word's text.
-/
import Derived.Lib.SmallJoins
import Derived.Lib.AppendIntMem
import Derived.Test.YtgjgbgllhbdodaaDoorLyf
namespace Go.Proofs.YtgjgbgllhbdodaaDoor
open Go.RowKit Go.Lib
set_option linter.unusedVariables false

theorem signs_enc : (∀ k, k < 34 → (Utf8.encode (glyR.getD k 0)).data.toList = glyB.getD k []) ∧ (∀ k, k < 16 → (Utf8.encode (sgnR.getD k 0)).data.toList = sgnB.getD k []) := by
  constructor <;> decide +kernel
set_option maxRecDepth 100000 in
set_option maxHeartbeats 4000000 in
theorem signat_any (K : Nat) (s : ByteArray) (hs : s.size ≤ 100000) (hv : validD (tl s 0) = true) (hK : K < (runesL (tl s 0)).length) (w : World) :
    Calls Tryd.prog 30 #[.int .i64 (K : Int), .string s] w fun e w' => e = .returned (.string (Utf8.encode ((runesL (tl s 0)).getD K 0))) ∧ Below w.heap.size w w' := by
  have HV : Hid (validD (tl s 0) = true) := hv
  have hKs : K < 100000 := by
    have := runesL_le _ (tl s 0) (Nat.le_refl _)
    rw [tl_len] at this; omega
  clear hv
  go_enter Tryd.func30, Tryd.ntmps30
  go_wp2_with fail
  go_loopw [0] (fun v wr => ∃ (pos : Nat) (xs : List Int), Hid (Rd s pos xs) ∧ xs.length ≤ K ∧ v = .int .i64 ((K - xs.length : Nat) : Int) ∧ wr.heap[w.heap.size]? = some (.stringIter s pos) ∧ Below w.heap.size w wr) (fun _ wr => s.size - wr.iterPos w.heap.size)
  case atStart =>
    exact ⟨0, [], Rd.zero s, Nat.zero_le _, rfl, World.iter_heap w s 0, (Below.refl _ w).alloc (Nat.le_refl _) _⟩
  case round =>
    obtain ⟨pos, xs, HR, hxK, rfl, hit, hB⟩ := hrel
    have HB : Hid (Below w.heap.size w wr) := hB
    clear hB
    have hp : pos < s.size := by
      rcases Nat.lt_or_ge pos s.size with h | h
      · exact h
      · have := HR.out.done (by omega : ¬ pos < s.size)
        rw [this] at hK; omega
    obtain ⟨c, m, hd, hc, hok⟩ := HR.out.step hp HV.out
    have hnx : ∀ ty, (Instr.next (.pointer (some ⟨w.heap.size, 0, none⟩)) true ty).run Tryd.prog wr = _ := fun ty => Lib.run_next_any_at wr w.heap.size s pos ty hit hp
    rw [hd] at hnx
    dsimp only at hnx
    have hit2 := Lib.iterAt_heap wr w.heap.size s pos (pos + (m + 1)) hit
    have hB2 : Hid (Below w.heap.size w (wr.iterAt w.heap.size s (pos + (m + 1)))) := Lib.below_iterAt HB.out (k := w.heap.size) (Nat.le_refl _) s (pos + (m + 1))
    have HX : Hid (Rd s (pos + (m + 1)) (xs ++ [(c : Int)])) := HR.out.next hp hok
    have HI : Hid (wr.heap[w.heap.size]? = some (.stringIter s pos)) := hit
    have HRR : Hid (runesL (tl s 0) = xs ++ (c : Int) :: runesL (tl s (pos + (m + 1)))) := by
      show _ = _
      rw [HR.out.2.1, hok.runes hp]
    clear hok hd hit hK
    obtain ⟨wi, hwi⟩ : ∃ wi, wi = wr.iterAt w.heap.size s (pos + (m + 1)) := ⟨_, rfl⟩
    rw [← hwi] at hnx hit2 hB2
    clear hwi
    by_cases he : xs.length = K
    · have HE : Hid (Utf8.encode ((runesL (tl s 0)).getD K 0) = Utf8.encode (c : Int)) := by
        show _ = _
        rw [HRR.out, ← he, List.getD_eq_getElem?_getD, List.getElem?_append_right (Nat.le_refl _), Nat.sub_self]; rfl
      have te : (((K - xs.length : Nat) : Int) == 0) = true := by rw [beq_iff_eq]; omega
      clear he
      go_wp2_with fail
      go_ret
      exact ⟨by rw [HE.out]; rfl, hB2.out⟩
    · have te : (((K - xs.length : Nat) : Int) == 0) = false := by rw [beq_eq_false_iff_ne]; omega
      have hn : ((K - xs.length : Nat) : Int) - 1 = ((K - (xs ++ [(c : Int)]).length : Nat) : Int) := by rw [List.length_append, List.length_singleton]; omega
      have hl : (xs ++ [(c : Int)]).length ≤ K := by rw [List.length_append, List.length_singleton]; omega
      clear he
      generalize hys : xs ++ [(c : Int)] = ys at *
      clear hys
      go_wp2_with fail
      refine ⟨⟨pos + (m + 1), ys, HX, hl, rfl, hit2, hB2.out⟩, ?_⟩
      simp only [World.iterPos, hit2, HI.out]
      omega
theorem signat_gly (K : Nat) (hK : K < 34) (s : ByteArray) (h : s.data.toList = glyB.flatten) (w : World) :
    Calls Tryd.prog 30 #[.int .i64 (K : Int), .string s] w fun e w' => e = .returned (.string ⟨(glyB.getD K []).toArray⟩) ∧ Below w.heap.size w w' := by
  have hz : s.size ≤ 100000 := by rw [size_eq, h]; decide
  have hc : runesL (tl s 0) = glyR := by rw [tl_zero, h]; exact gly_const.2
  have := signat_any K s hz (by rw [tl_zero, h]; exact gly_const.1) (by rw [hc]; exact hK) w
  rw [hc, show Utf8.encode (glyR.getD K 0) = ⟨(glyB.getD K []).toArray⟩ by rw [← signs_enc.1 K hK]] at this
  exact this
theorem signat_sgn (K : Nat) (hK : K < 16) (s : ByteArray) (h : s.data.toList = sgnB.flatten) (w : World) :
    Calls Tryd.prog 30 #[.int .i64 (K : Int), .string s] w fun e w' => e = .returned (.string ⟨(sgnB.getD K []).toArray⟩) ∧ Below w.heap.size w w' := by
  have hz : s.size ≤ 100000 := by rw [size_eq, h]; decide
  have hc : runesL (tl s 0) = sgnR := by rw [tl_zero, h]; exact sgn_const.2
  have := signat_any K s hz (by rw [tl_zero, h]; exact sgn_const.1) (by rw [hc]; exact hK) w
  rw [hc, show Utf8.encode (sgnR.getD K 0) = ⟨(sgnB.getD K []).toArray⟩ by rw [← signs_enc.2 K hK]] at this
  exact this
/-- The library's variables that the texts of numbers and of quotes lean on. -/
def Spl (w : World) : Prop := (∃ nm, Tryd.prog.globalNamed nm = some 3 ∧ Lib.TabIs Tryd.prog w nm .u64 Lib.pow10Tab) ∧ ∃ m : Int, w.cell? ⟨2, 0, none⟩ = some (.int .i64 m)
theorem Spl.go {w w' : World} (h : Spl w) (hB : Below w.heap.size w w') : Spl w' := by
  obtain ⟨⟨nm, h1, h2⟩, m, h3⟩ := h
  exact ⟨⟨nm, h1, Go.Joins.var_stays h1 h2 hB (Nat.le_refl _)⟩, m, (hB.cell (p := ⟨2, 0, none⟩) (World.block_lt_of_cell? w _ h3)).trans h3⟩
theorem tab_any {w : World} (h : Spl w) (nm : String) (hn : Tryd.prog.globalNamed nm = some 3) : Lib.TabIs Tryd.prog w nm .u64 Lib.pow10Tab := by
  obtain ⟨⟨nm', h1, h2⟩, _⟩ := h
  unfold Lib.TabIs World.var? at h2 ⊢
  rw [h1] at h2
  rw [hn]; exact h2
theorem itoa_any17 (n : Int) (hn : InR n) (w : World) (h : Spl w) :
    Calls Tryd.prog 28 #[.int .i64 n] w fun e w' => e = .returned (.string ⟨(Lib.itoa n).toArray⟩) ∧ Below w.heap.size w w' := by
  refine (Any.strconv_Itoa Tryd.laysM171 n hn.1 hn.2 w (tab_any h _ (by kernel_rfl))).mono ?_
  rintro e w' ⟨rfl, k, os, rfl⟩
  exact ⟨rfl, Lib.below_grow _ w (Nat.le_refl _) k os⟩
theorem repl_any17 (n : Int) (hn : InR n) (s : ByteArray) (hS : s = ⟨(Lib.itoa n).toArray⟩) (w : World) (h : Spl w) :
    Calls Tryd.prog 27 #[.string s, .string ⟨#[45]⟩, .string ⟨#[194, 175]⟩, .int .i64 1] w fun e w' => e = .returned (.string ⟨(digS n).toArray⟩) ∧ Below w.heap.size w w' := by
  obtain ⟨_, m, hm⟩ := h
  have hl := itoa_length_le n hn.1 hn.2
  have hsz : s.size = (Lib.itoa n).length := by rw [hS, size_mk]
  have hcn := count_le s.data.toList [45]
  rw [← size_eq] at hcn
  have hc := Tryd.strings_Replace s ⟨#[45]⟩ ⟨#[194, 175]⟩ 1 m w (by omega) hm (by decide) (by
    show s.size + Lib.count s.data.toList [45] * 2 ≤ _
    omega)
  rw [show Lib.replace s.data.toList ((⟨#[45]⟩ : ByteArray).data.toList) ((⟨#[194, 175]⟩ : ByteArray).data.toList) 1 = digS n by rw [hS]; exact rep_dig n] at hc
  exact hc
theorem repa_any17 (s : ByteArray) (hs : s.size ≤ 1000000) (w : World) (h : Spl w) :
    Calls Tryd.prog 29 #[.string s, .string ⟨#[39]⟩, .string ⟨#[39, 39]⟩] w fun e w' => e = .returned (.string ⟨(dblQ s.data.toList).toArray⟩) ∧ Below w.heap.size w w' := by
  obtain ⟨_, m, hm⟩ := h
  have hcn := count_le s.data.toList [39]
  rw [← size_eq] at hcn
  have hc := Tryd.strings_ReplaceAll s ⟨#[39]⟩ ⟨#[39, 39]⟩ m w (by omega) hm (by decide) (by
    show s.size + Lib.count s.data.toList [39] * 2 ≤ _
    omega)
  rw [show Lib.replaceAll s.data.toList ((⟨#[39]⟩ : ByteArray).data.toList) ((⟨#[39, 39]⟩ : ByteArray).data.toList) = dblQ s.data.toList from rep_dbl _] at hc
  exact hc
end Go.Proofs.YtgjgbgllhbdodaaDoor
