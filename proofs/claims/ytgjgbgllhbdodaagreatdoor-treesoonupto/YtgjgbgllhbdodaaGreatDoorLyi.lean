
/-
  The program tells the text of right words.
-/
import Derived.Shelf.Strings.BuilderK
import Derived.Test.YtgjgbgllhbdodaaGreatDoorLyh
namespace Go.Proofs.YtgjgbgllhbdodaaGreatDoor
open Go.RowKit Go.Lib
set_option linter.unusedVariables false

theorem bldk_write {w : World} {B b : Nat} {l : List UInt8} (h : Bld w B b l) (t : ByteArray) (hl : l.length ≤ 10000000) (ht : t.size ≤ 10000000) (hB : B ≤ w.heap.size) :
    Calls Tryz.prog 67 #[.pointer (some ⟨b, 0, none⟩), .string t] w fun e w' => e = .returned (.tuple #[.int .i64 t.size, .nilIface]) ∧ Bld w' B b (l ++ t.data.toList) ∧ Below B w w' ∧ Lib.OthersKept 5 (some b) w w' := by
  refine (Any.Builder_WriteString_k { Tryz.lays154 with } Tryz.Builder_Extra_154 B b (byteCells l) t w h (by rw [byteCells_length]; omega) hB).mono ?_
  rintro e w' ⟨rfl, h1, h2, h3⟩
  refine ⟨rfl, .inr ?_, h2, h3⟩
  rw [byteCells_append, ← strCells_eq]; exact h1
theorem bld_len {w : World} {B b : Nat} {l : List UInt8} (h : Bld w B b l) :
    Calls Tryz.prog 69 #[.pointer (some ⟨b, 0, none⟩)] w fun e w' => e = .returned (.int .i64 (l.length : Int)) ∧ w' = w := by
  have := Tryz.Builder_Len_f B b (byteCells l) w h
  rw [byteCells_length] at this; exact this
theorem Tbx.kept {w w' : World} {n b : Nat} {x0 x1 x2 x3 x4 : Value} (h : Tbx w n x0 x1 x2 x3 x4) (hk : Lib.OthersKept 5 (some b) w w') (hn : n ≠ b) : Tbx w' n x0 x1 x2 x3 x4 := by
  unfold Tbx at *
  refine hk n _ h (fun e => hn (Option.some.inj e)) ?_
  intro c fz e
  have : (30 : Nat) = 5 := (Obj.cells.inj e).2.1
  exact absurd this (by decide)
/-- The texts of the first words, a blank between each two. -/
def jnA (ts : List TkA) (k : Nat) : List UInt8 := joinB ((ts.take k).map fun b => spT b.1)
theorem tkz_get {ts : List TkA} {k : Nat} (hk : k < ts.length) : tkz ts k = ts[k] := by unfold tkz; rw [List.getD_eq_getElem?_getD, List.getElem?_eq_getElem hk]; rfl
theorem jnA_step {ts : List TkA} {k : Nat} (hk : k < ts.length) : jnA ts (k + 1) = if k = 0 then spT (tkz ts k).1 else jnA ts k ++ 32 :: spT (tkz ts k).1 := by
  unfold jnA
  rw [List.take_succ_eq_append_getElem hk, List.map_append, List.map_singleton, joinB_snoc, tkz_get hk]
  by_cases h : k = 0
  · subst h; rfl
  · rw [if_neg h, if_neg]
    intro e
    have := congrArg List.length e
    rw [List.length_map, List.length_take, List.length_nil] at this; omega
theorem jnA_le (ts : List TkA) {k : Nat} (hk : k ≤ ts.length) : (jnA ts k).length ≤ (jnA ts ts.length).length := by
  unfold jnA
  rw [List.take_length]
  have h := joinB_take ((ts.take k).map fun b => spT b.1) ((ts.drop k).map fun b => spT b.1)
  rw [← List.map_append, List.take_append_drop] at h
  exact h
theorem jnA_in {ts : List TkA} {k : Nat} (hk : k < ts.length) : (spT (tkz ts k).1).length ≤ (jnA ts (k + 1)).length := by
  rw [jnA_step hk]
  by_cases h : k = 0
  · rw [if_pos h]; exact Nat.le_refl _
  · rw [if_neg h, List.length_append, List.length_cons]; omega
theorem tab_short : (∀ k, k < 34 → (glyB.getD k []).length ≤ 3) ∧ (∀ k, k < 16 → (sgnB.getD k []).length ≤ 3) := by constructor <;> decide
theorem spT_le {t : Tk} (h : ckE t = 0) (hr : InR t.num) (hz : t.text.length ≤ 1000) : (spT t).length ≤ 5000 := by
  obtain ⟨kind, fn, num, text⟩ := t
  have hB : rtB ⟨kind, fn, num, text⟩ = true := by
    unfold ckE at h
    by_cases e : rtB ⟨kind, fn, num, text⟩ = false
    · rw [if_pos e] at h; omega
    · simpa using e
  simp only at hr hz
  unfold rtB at hB
  simp only at hB
  unfold spT
  simp only
  by_cases k1 : kind = 1
  · rw [if_pos k1]
    have := dig_len hr; omega
  rw [if_neg k1] at hB ⊢
  by_cases k2 : kind = 2
  · rw [if_pos k2]
    have := dbl_le text
    rw [List.length_append, List.length_cons, List.length_singleton]; omega
  rw [if_neg k2] at hB ⊢
  by_cases k3 : kind = 3
  · rw [if_pos k3]; omega
  rw [if_neg k3] at hB ⊢
  by_cases k4 : kind = 4
  · rw [if_pos k4, decide_eq_true_iff] at hB
    rw [if_pos k4]
    have := tab_short.1 (fn.toNat - 1) (by omega); omega
  rw [if_neg k4, decide_eq_true_iff] at hB
  rw [if_neg k4]
  have := tab_short.2 (kind.toNat - 5) (by omega); omega
/-- What telling the text of right words ends with. -/
def JnP (ts : List TkA) (w : World) (e : Ending) (w' : World) : Prop :=
  Below w.heap.size w w' ∧ e = if 1000 < (jnA ts ts.length).length then panV 79 0 else .returned (.string ⟨(jnA ts ts.length).toArray⟩)
set_option maxRecDepth 100000 in
set_option maxHeartbeats 8000000 in
theorem line_spell (a : Option Addr) (cap : Nat) (ts : List TkA) (hl : ts.length ≤ 200) (w : World) (hI : IsTk w.heap.size w a ts) (hck : ∀ j, j < ts.length → ckE (tkz ts j).1 = 0 ∧ InR (tkz ts j).1.num) (hsp : Spl w) :
    Calls Tryz.prog 35 #[.slice a ts.length cap] w (JnP ts w) := by
  have HLong : Hid (1000 < (jnA ts ts.length).length → ∀ w', Below w.heap.size w w' → JnP ts w (panV 79 0) w') := fun h w' hB => ⟨hB, by rw [if_pos h]⟩
  have HShort : Hid (¬ 1000 < (jnA ts ts.length).length → ∀ w', Below w.heap.size w w' → JnP ts w (.returned (.string ⟨(jnA ts ts.length).toArray⟩)) w') := fun h w' hB => ⟨hB, by rw [if_neg h]⟩
  have HS : Hid (Spl w) := hsp
  have HC : Hid (∀ j, j < ts.length → ckE (tkz ts j).1 = 0 ∧ InR (tkz ts j).1.num) := hck
  have HII : Hid (IsTk w.heap.size w a ts) := hI
  have hwp : 3 < w.heap.size := by obtain ⟨_, m, h⟩ := hsp; exact World.block_lt_of_cell? w _ h
  clear hI hck hsp
  go_enter Tryz.func35, Tryz.ntmps35
  go_wp2_with fail
  go_loopw [8] (fun v wr => ∃ k : Nat, k ≤ ts.length ∧ v = .int .i64 k ∧ Hid (Bld wr w.heap.size w.heap.size (jnA ts k)) ∧ (jnA ts k).length ≤ 1000 ∧ w.heap.size + 1 ≤ wr.heap.size ∧ Hid (Below w.heap.size w wr)) (fun v _ => ts.length - (RowKit.intOf v).toNat)
  case atStart =>
    refine ⟨0, Nat.zero_le _, rfl, Bld.new w, Nat.zero_le _, by simp, (Below.refl _ w).alloc (Nat.le_refl _) _⟩
  case round =>
    obtain ⟨k, hk, rfl, HD, hjl, hsz, HB⟩ := hrel
    by_cases hlt : k < ts.length
    · obtain ⟨g, off, rfl, hg, hcell⟩ := (HII.out.go HB.out).at hlt
      obtain ⟨c0, c1, c2, c3, c4⟩ := hcell k hlt
      clear hcell
      have hck := HC.out k hlt
      have hin := jnA_in hlt
      have hst := jnA_step hlt
      have htot := jnA_le ts (k := k + 1) hlt
      have hge := spT_ge hck.1
      generalize hx : tkz ts k = x at *
      obtain ⟨⟨tk, tf, tn, tt⟩, ta⟩ := x
      simp only [TkA.s] at c0 c1 c2 c3 c4
      try dsimp only at hin hst hge hck
      obtain ⟨hc0, hrn⟩ := hck
      try dsimp only at hrn
      have HT : Hid ((⟨tt.toArray⟩ : ByteArray).size = tt.length) := size_mk _
      have hts := HT.out
      obtain ⟨T, hT⟩ : ∃ T : ByteArray, T = ⟨tt.toArray⟩ := ⟨_, rfl⟩
      rw [← hT] at c3 hts
      have HTT : Hid (T = ⟨tt.toArray⟩) := hT
      have HCK : Hid (ckE ⟨tk, tf, tn, tt⟩ = 0) := hc0
      have HRN : Hid (InR tn) := hrn
      obtain ⟨W1, hW1⟩ : ∃ W1, W1 = wr.alloc (.cells #[.int .i64 tk, .int .i64 tf, .int .i64 tn, .string T, .int .i64 ta] 30) := ⟨_, rfl⟩
      have HW1 : Hid (W1 = wr.alloc (.cells #[.int .i64 tk, .int .i64 tf, .int .i64 tn, .string T, .int .i64 ta] 30)) := hW1
      have HD1 : Hid (Bld W1 w.heap.size w.heap.size (jnA ts k)) := by show Bld _ _ _ _; rw [hW1]; exact HD.out.al _
      have HB1 : Hid (Below w.heap.size w W1) := by show Below _ _ _; rw [hW1]; exact HB.out.alloc (by omega) _
      have HK1 : Hid (Tbx W1 wr.heap.size (.int .i64 tk) (.int .i64 tf) (.int .i64 tn) (.string T) (.int .i64 ta)) := by show Tbx _ _ _ _ _ _ _; rw [hW1]; exact Tbx.new wr _ _ _ _ _
      have hz1 : w.heap.size + 1 ≤ W1.heap.size := by rw [hW1]; simp; omega
      have hlk : (k : Int) < (ts.length : Int) := by omega
      clear hT hW1 hc0 hrn hx
      by_cases hk0 : k = 0
      · have HJ0 : Hid (jnA ts k = []) := by subst hk0; rfl
        rw [if_pos hk0] at hst
        have HST : Hid (jnA ts (k + 1) = spT ⟨tk, tf, tn, tt⟩) := hst
        have hkp : ¬ (0 : Int) < (k : Int) := by omega
        clear hk0 hst
        have r0 := HK1.out.c0
        have r1 := HK1.out.c1
        have r2 := HK1.out.c2
        have r3 := HK1.out.c3
        have r4 := HK1.out.c4
        by_cases hlong : 1000 < tt.length
        · have hlg : (1000 : Int) < (T.size : Int) := by omega
          have hbig : 1000 < (jnA ts ts.length).length := by omega
          go_wp2_with fail
          rw [← HW1.out]
          exact ⟨rfl, HLong.out hbig _ HB1.out⟩
        · have hlg : ¬ (1000 : Int) < (T.size : Int) := by omega
          have hcs := spelling_any ⟨tk, tf, tn, tt⟩ ta HRN.out (by show tt.length ≤ 1000; omega) HCK.out W1 (HS.out.go HB1.out)
          simp only [tokI] at hcs
          rw [← HTT.out] at hcs
          have hsl := spT_le HCK.out HRN.out (by show tt.length ≤ 1000; omega)
          obtain ⟨sp, hsp⟩ : ∃ sp, spT ⟨tk, tf, tn, tt⟩ = sp := ⟨_, rfl⟩
          rw [hsp] at hcs hsl
          have hspz : (⟨sp.toArray⟩ : ByteArray).size = sp.length := size_mk _
          have hspl : (⟨sp.toArray⟩ : ByteArray).data.toList = sp := rfl
          have HJ : Hid (jnA ts (k + 1) = jnA ts k ++ sp) := by show _ = _; rw [HST.out, hsp]; rw [HJ0.out]; rfl
          obtain ⟨Y, hY⟩ : ∃ Y : ByteArray, Y = ⟨sp.toArray⟩ := ⟨_, rfl⟩
          rw [← hY] at hcs hspz hspl
          clear hY hsp
          go_wp2_with fail
          rw [← HW1.out]
          refine hcs.mono ?_
          rintro e w2 ⟨rfl, hB2⟩
          have HD2 : Hid (Bld w2 w.heap.size w.heap.size (jnA ts k)) := HD1.out.go hB2
          have HB2 : Hid (Below w.heap.size w w2) := HB1.out.trans (hB2.mono (by omega))
          have hz2 : w.heap.size + 1 ≤ w2.heap.size := Nat.le_trans hz1 hB2.size
          clear hB2 hcs
          go_wp2_with fail
          refine (bldk_write HD2.out Y (by omega) (by omega) (by omega)).mono ?_
          rintro e w3 ⟨rfl, hD3, hB3, _⟩
          rw [hspl, ← HJ.out] at hD3
          have HD3 : Hid (Bld w3 w.heap.size w.heap.size (jnA ts (k + 1))) := hD3
          have HB3 : Hid (Below w.heap.size w w3) := HB2.out.trans hB3
          have hz3 : w.heap.size + 1 ≤ w3.heap.size := Nat.le_trans hz2 hB3.size
          clear hD3 hB3
          go_wp2_with fail
          refine (bld_len HD3.out).mono ?_
          rintro e w' ⟨rfl, hw'⟩
          obtain rfl := hw'.symm
          by_cases hbg : 1000 < (jnA ts (k + 1)).length
          · have hlg2 : (1000 : Int) < ((jnA ts (k + 1)).length : Int) := by omega
            have hbig : 1000 < (jnA ts ts.length).length := by omega
            go_wp2_with fail
            exact ⟨rfl, HLong.out hbig _ HB3.out⟩
          · have hlg2 : ¬ (1000 : Int) < ((jnA ts (k + 1)).length : Int) := by omega
            go_wp2_with fail
            refine ⟨⟨k + 1, hlt, by first | rfl | go_num, HD3, by omega, hz3, HB3⟩, by simp [RowKit.intOf]; omega⟩
      · rw [if_neg hk0] at hst
        have HST : Hid (jnA ts (k + 1) = jnA ts k ++ 32 :: spT ⟨tk, tf, tn, tt⟩) := hst
        clear hst
        have hkp : (0 : Int) < (k : Int) := by omega
        have hcw := bldk_write HD1.out ⟨#[32]⟩ (by omega) (by decide) (by omega)
        rw [show (⟨#[32]⟩ : ByteArray).data.toList = [32] from rfl] at hcw
        go_wp2_with fail
        rw [← HW1.out]
        refine hcw.mono ?_
        rintro e w2 ⟨rfl, hD2, hB2, hO2⟩
        have HD2 : Hid (Bld w2 w.heap.size w.heap.size (jnA ts k ++ [32])) := hD2
        have HB2 : Hid (Below w.heap.size w w2) := HB1.out.trans hB2
        have HK2 : Hid (Tbx w2 wr.heap.size (.int .i64 tk) (.int .i64 tf) (.int .i64 tn) (.string T) (.int .i64 ta)) := HK1.out.kept hO2 (by omega)
        have hz2 : w.heap.size + 1 ≤ w2.heap.size := Nat.le_trans hz1 hB2.size
        have hj2 : (jnA ts k ++ [32]).length ≤ 1001 := by rw [List.length_append, List.length_singleton]; omega
        clear hD2 hB2 hO2 hcw
        have r0 := HK2.out.c0
        have r1 := HK2.out.c1
        have r2 := HK2.out.c2
        have r3 := HK2.out.c3
        have r4 := HK2.out.c4
        by_cases hlong : 1000 < tt.length
        · have hlg : (1000 : Int) < (T.size : Int) := by omega
          have hbig : 1000 < (jnA ts ts.length).length := by omega
          go_wp2_with fail
          exact ⟨rfl, HLong.out hbig _ HB2.out⟩
        · have hlg : ¬ (1000 : Int) < (T.size : Int) := by omega
          have hcs := spelling_any ⟨tk, tf, tn, tt⟩ ta HRN.out (by show tt.length ≤ 1000; omega) HCK.out w2 (HS.out.go HB2.out)
          simp only [tokI] at hcs
          rw [← HTT.out] at hcs
          have hsl := spT_le HCK.out HRN.out (by show tt.length ≤ 1000; omega)
          obtain ⟨sp, hsp⟩ : ∃ sp, spT ⟨tk, tf, tn, tt⟩ = sp := ⟨_, rfl⟩
          rw [hsp] at hcs hsl
          have hspz : (⟨sp.toArray⟩ : ByteArray).size = sp.length := size_mk _
          have hspl : (⟨sp.toArray⟩ : ByteArray).data.toList = sp := rfl
          have HJ : Hid (jnA ts (k + 1) = jnA ts k ++ [32] ++ sp) := by show _ = _; rw [HST.out, hsp]; rw [List.append_assoc]; rfl
          obtain ⟨Y, hY⟩ : ∃ Y : ByteArray, Y = ⟨sp.toArray⟩ := ⟨_, rfl⟩
          rw [← hY] at hcs hspz hspl
          clear hY hsp
          go_wp2_with fail
          refine hcs.mono ?_
          rintro e w3 ⟨rfl, hB3⟩
          have HD3 : Hid (Bld w3 w.heap.size w.heap.size (jnA ts k ++ [32])) := HD2.out.go hB3
          have HB3 : Hid (Below w.heap.size w w3) := HB2.out.trans (hB3.mono (by omega))
          have hz3 : w.heap.size + 1 ≤ w3.heap.size := Nat.le_trans hz2 hB3.size
          clear hB3 hcs
          go_wp2_with fail
          refine (bldk_write HD3.out Y (by omega) (by omega) (by omega)).mono ?_
          rintro e w4 ⟨rfl, hD4, hB4, _⟩
          rw [hspl, ← HJ.out] at hD4
          have HD4 : Hid (Bld w4 w.heap.size w.heap.size (jnA ts (k + 1))) := hD4
          have HB4 : Hid (Below w.heap.size w w4) := HB3.out.trans hB4
          have hz4 : w.heap.size + 1 ≤ w4.heap.size := Nat.le_trans hz3 hB4.size
          clear hD4 hB4
          go_wp2_with fail
          refine (bld_len HD4.out).mono ?_
          rintro e w' ⟨rfl, hw'⟩
          obtain rfl := hw'.symm
          by_cases hbg : 1000 < (jnA ts (k + 1)).length
          · have hlg2 : (1000 : Int) < ((jnA ts (k + 1)).length : Int) := by omega
            have hbig : 1000 < (jnA ts ts.length).length := by omega
            go_wp2_with fail
            exact ⟨rfl, HLong.out hbig _ HB4.out⟩
          · have hlg2 : ¬ (1000 : Int) < ((jnA ts (k + 1)).length : Int) := by omega
            go_wp2_with fail
            refine ⟨⟨k + 1, hlt, by first | rfl | go_num, HD4, by omega, hz4, HB4⟩, by simp [RowKit.intOf]; omega⟩
    · obtain rfl : k = ts.length := by omega
      have hsn : ¬ 1000 < (jnA ts ts.length).length := by omega
      go_wp2_with fail
      refine (bld_str HD.out (by omega)).mono ?_
      rintro e w1 ⟨rfl, _, hB1⟩
      have HB1 : Hid (Below w.heap.size w w1) := HB.out.trans hB1
      go_wp2_with fail
      go_ret
      exact HShort.out hsn _ HB1.out
end Go.Proofs.YtgjgbgllhbdodaaGreatDoor
