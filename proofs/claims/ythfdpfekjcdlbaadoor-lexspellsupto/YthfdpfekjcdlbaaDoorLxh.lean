/-
  The program reads a word.
-/
import Derived.Test.YthfdpfekjcdlbaaDoorLxg
namespace Go.Proofs.YthfdpfekjcdlbaaDoor
open Go.RowKit Go.Lib
set_option linter.unusedVariables false

theorem word_num {l : List UInt8} (h : minusB.isPrefixOf l = true) : wordS l = numW true ((l.drop 2).takeWhile isDg) := by
  obtain ⟨r, rfl⟩ := minus_split h
  exact wordS_minus r
theorem word_dig {b : UInt8} {r : List UInt8} (h : minusB.isPrefixOf (b :: r) = false) (hd : isDg b = true) : wordS (b :: r) = numW false ((b :: r).takeWhile isDg) := by
  rw [wordS_cons h, if_pos hd]
  unfold numW
  have := tk_pos (p := isDg) (r := r) hd
  rw [if_neg (fun e => by rw [e] at this; simp at this), if_neg Bool.false_ne_true, Nat.zero_add]
theorem word_err {l : List UInt8} {c : Int} (h : wordS l = .bad c) : c = 1 ∨ c = 6 ∨ c = 7 := by
  have num : ∀ {m : Bool} {ds : List UInt8} {k : Nat}, numS m ds k = .bad c → c = 1 ∨ c = 6 ∨ c = 7 := by
    intro m ds k h
    unfold numS at h
    by_cases hc : (if m = true then dgA 0 ds ≤ 9223372036854775808 else dgA 0 ds < 9223372036854775808)
    · rw [if_pos hc] at h; cases h
    · rw [if_neg hc] at h; cases h; omega
  have chr : ∀ {l : List UInt8}, chrS l = .bad c → c = 1 ∨ c = 6 ∨ c = 7 := by
    intro l h
    unfold chrS at h
    split at h
    · cases h; omega
    · split at h
      · cases h
      · cases h; omega
  have sig : ∀ {l : List UInt8}, sigS l = .bad c → c = 1 ∨ c = 6 ∨ c = 7 := by
    intro l h
    unfold sigS at h
    split at h
    · cases h
    · split at h
      · cases h
      · cases h; omega
  unfold wordS at h
  split at h
  · split at h
    · cases h; omega
    · exact num h
  · split at h
    · cases h; omega
    · split at h
      · exact num h
      · split at h
        · split at h
          · cases h; omega
          · cases h
        · split at h
          · exact chr h
          · exact sig h
set_option maxRecDepth 100000 in
set_option maxHeartbeats 8000000 in
theorem read_any17 (s : ByteArray) (i : Nat) (hi : i < s.size) (hs : s.size ≤ 100000) (w : World) (hT : Lib.Utf8Tabs (Tryd.laysValid_ren.g 3) (Tryd.laysValid_ren.g 4) w) (hr : HasRng w) :
    Calls Tryd.prog 22 #[.string s, .int .i64 i] w (WdP (wordS (tl s i)) i w) := by
  have hbt := bt_get s i hi
  have HT : Hid (Lib.Utf8Tabs (Tryd.laysValid_ren.g 3) (Tryd.laysValid_ren.g 4) (w.alloc (.cells #[.int .i64 0, .int .i64 0, .int .i64 0, .string ⟨#[]⟩, .int .i64 0] 29))) := tabs_go hT ((Below.refl _ w).alloc (Nat.le_refl _) _)
  have HR : Hid (HasRng (w.alloc (.cells #[.int .i64 0, .int .i64 0, .int .i64 0, .string ⟨#[]⟩, .int .i64 0] 29))) := hr.al _
  have HK : Hid (Tbx (w.alloc (.cells #[.int .i64 0, .int .i64 0, .int .i64 0, .string ⟨#[]⟩, .int .i64 0] 29)) w.heap.size (.int .i64 0) (.int .i64 0) (.int .i64 0) (.string ⟨#[]⟩) (.int .i64 0)) := Tbx.new w _ _ _ _ _
  have HB : Hid (Below w.heap.size w (w.alloc (.cells #[.int .i64 0, .int .i64 0, .int .i64 0, .string ⟨#[]⟩, .int .i64 0] 29))) := (Below.refl _ w).alloc (Nat.le_refl _) _
  have hm := Tryd.strings_HasPrefix (s.extract i s.size) ⟨#[194, 175]⟩
  have hq := Tryd.strings_HasPrefix (s.extract i s.size) ⟨#[39]⟩
  rw [sx_list] at hm hq
  have hc := tl_cons hi
  have hbb : bt s i = (s.data.toList.getD i 0).toNat := rfl
  have hd := dgI_is (s.data.toList.getD i 0)
  have hl := ltI_is (s.data.toList.getD i 0)
  rw [← hbb] at hd hl
  have hqq : hasPrefix (tl s i) ((⟨#[39]⟩ : ByteArray).data.toList) = decide (bt s i = 39) := by
    rw [hc]
    show ((39 : UInt8) == s.data.toList.getD i 0 && true) = _
    rw [Bool.and_true, hbb]
    by_cases e : (s.data.toList.getD i 0) = 39
    · rw [e]; rfl
    · rw [beq_eq_false_iff_ne.2 (Ne.symm e), decide_eq_false (fun q => e (u8_eq q))]
  cases hmm : minusB.isPrefixOf (tl s i)
  · have HM : Hid (hasPrefix (tl s i) ((⟨#[194, 175]⟩ : ByteArray).data.toList) = false) := hmm
    have hmc := hmm
    rw [hc] at hmc
    cases hdd : dgI (bt s i)
    · have HD : Hid (dgI (bt s i) = false) := hdd
      have hnd : ¬ isDg (s.data.toList.getD i 0) = true := by rw [← hd, hdd]; exact Bool.false_ne_true
      by_cases h39 : bt s i = 39
      · have HQ : Hid (hasPrefix (tl s i) ((⟨#[39]⟩ : ByteArray).data.toList) = true) := by show _ = _; rw [hqq]; exact decide_eq_true h39
        have hnl : ¬ isLt (s.data.toList.getD i 0) = true := fun e => by have := lt_dg e; have := lt_rng e; omega
        obtain ⟨W, hW⟩ : ∃ W, W = chrS (tl s (i + 1)) := ⟨_, rfl⟩
        have hw : wordS (tl s i) = W := by rw [hW, hc, wordS_cons hmc, if_neg hnd, if_neg hnl, if_pos (by rw [← hbb]; exact h39)]
        have HC := chars_any17 s i hi hs _ HT.out
        rw [← hW] at HC
        clear hW hqq h39 hnl hnd hdd hmc hmm hd hl hc hT hr hbb
        have HW : Hid (∀ e w', WdP W i w e w' → WdP (wordS (tl s i)) i w e w') := fun e w' h => by rw [hw]; exact h
        clear hw
        go_enter Tryd.func22, Tryd.ntmps22
        go_wp2_with fail
        refine (dig_any _ _).mono ?_
        rintro e w' ⟨rfl, rfl⟩
        rw [HD.out]
        go_wp2_with fail
        refine (hm _).mono ?_
        rintro e w' ⟨rfl, rfl⟩
        rw [HM.out]
        go_wp2_with fail
        refine (hq _).mono ?_
        rintro e w' ⟨rfl, rfl⟩
        rw [HQ.out]
        go_wp2_with fail
        refine (HC).mono ?_
        intro e w1 hP
        have HB1 : Hid (Below w.heap.size w w1) := HB.out.trans (hP.1.mono HB.out.size)
        have K := HK.out.go hP.1
        cases W with
        | error c =>
          obtain rfl := hP.2
          clear hP K
          simp only [panV]
          go_wp2_with fail
          exact ⟨rfl, HW.out _ _ ⟨HB1.out, rfl⟩⟩
        | ok tn =>
          obtain ⟨t, n⟩ := tn
          obtain rfl := hP.2
          have r0 := K.c0
          have r1 := K.c1
          have r2 := K.c2
          have r3 := K.c3
          have r4 := K.c4
          have f0 := K.fr 0
          have f1 := K.fr 1
          have f2 := K.fr 2
          have f3 := K.fr 3
          have f4 := K.fr 4
          clear hP
          obtain ⟨tk, tf, tn, tt⟩ := t
          simp only [tokV]
          go_wp2_with fail
          have F := K.set5 (.int .i64 tk) (.int .i64 tf) (.int .i64 tn) (.string ⟨tt.toArray⟩) (.int .i64 i)
          have q0 := F.c0
          have q1 := F.c1
          have q2 := F.c2
          have q3 := F.c3
          have q4 := F.c4
          refine bodyPost_ret (v := .tuple #[tokV ⟨tk, tf, tn, tt⟩ i, .int .i64 ((i + n : Nat) : Int)]) (by simp [results, Tryd.results22, go_sem, tokV, q0, q1, q2, q3, q4]) rfl (HW.out _ _ ⟨bel_set5 HB1.out (Nat.le_refl _) _ _ _ _ _, rfl⟩)
      · have HQ : Hid (hasPrefix (tl s i) ((⟨#[39]⟩ : ByteArray).data.toList) = false) := by show _ = _; rw [hqq]; exact decide_eq_false h39
        have hn39 : ¬ (s.data.toList.getD i 0).toNat = 39 := by rw [← hbb]; exact h39
        cases hll : ltI (bt s i)
        · have HL : Hid (ltI (bt s i) = false) := hll
          have hnl : ¬ isLt (s.data.toList.getD i 0) = true := by rw [← hl, hll]; exact Bool.false_ne_true
          obtain ⟨W, hW⟩ : ∃ W, W = sigS (tl s i) := ⟨_, rfl⟩
          have hw : wordS (tl s i) = W := by rw [hW, hc, wordS_cons hmc, if_neg hnd, if_neg hnl, if_neg hn39]
          have HC := sign_any s i hi hs _ HT.out
          rw [← hW] at HC
          clear hW hqq h39 hnl hnd hdd hmc hmm hd hl hc hT hr hbb hn39 hll
          have HW : Hid (∀ e w', WdP W i w e w' → WdP (wordS (tl s i)) i w e w') := fun e w' h => by rw [hw]; exact h
          clear hw
          go_enter Tryd.func22, Tryd.ntmps22
          go_wp2_with fail
          refine (dig_any _ _).mono ?_
          rintro e w' ⟨rfl, rfl⟩
          rw [HD.out]
          go_wp2_with fail
          refine (hm _).mono ?_
          rintro e w' ⟨rfl, rfl⟩
          rw [HM.out]
          go_wp2_with fail
          refine (hq _).mono ?_
          rintro e w' ⟨rfl, rfl⟩
          rw [HQ.out]
          go_wp2_with fail
          refine (let_any _ _).mono ?_
          rintro e w' ⟨rfl, rfl⟩
          rw [HL.out]
          go_wp2_with fail
          refine (HC).mono ?_
          intro e w1 hP
          have HB1 : Hid (Below w.heap.size w w1) := HB.out.trans (hP.1.mono HB.out.size)
          have K := HK.out.go hP.1
          cases W with
          | error c =>
            obtain rfl := hP.2
            clear hP K
            simp only [panV]
            go_wp2_with fail
            exact ⟨rfl, HW.out _ _ ⟨HB1.out, rfl⟩⟩
          | ok tn =>
            obtain ⟨t, n⟩ := tn
            obtain rfl := hP.2
            have r0 := K.c0
            have r1 := K.c1
            have r2 := K.c2
            have r3 := K.c3
            have r4 := K.c4
            have f0 := K.fr 0
            have f1 := K.fr 1
            have f2 := K.fr 2
            have f3 := K.fr 3
            have f4 := K.fr 4
            clear hP
            obtain ⟨tk, tf, tn, tt⟩ := t
            simp only [tokV]
            go_wp2_with fail
            have F := K.set5 (.int .i64 tk) (.int .i64 tf) (.int .i64 tn) (.string ⟨tt.toArray⟩) (.int .i64 i)
            have q0 := F.c0
            have q1 := F.c1
            have q2 := F.c2
            have q3 := F.c3
            have q4 := F.c4
            refine bodyPost_ret (v := .tuple #[tokV ⟨tk, tf, tn, tt⟩ i, .int .i64 ((i + n : Nat) : Int)]) (by simp [results, Tryd.results22, go_sem, tokV, q0, q1, q2, q3, q4]) rfl (HW.out _ _ ⟨bel_set5 HB1.out (Nat.le_refl _) _ _ _ _ _, rfl⟩)
        · have HL : Hid (ltI (bt s i) = true) := hll
          have hyl : isLt (s.data.toList.getD i 0) = true := by rw [← hl, hll]
          obtain ⟨W, hW⟩ : ∃ W, W = (if 12 < ((tl s i).takeWhile isPt).length then Wd.bad 7 else .ok ⟨3, 0, 0, (tl s i).takeWhile isPt⟩ ((tl s i).takeWhile isPt).length) := ⟨_, rfl⟩
          have hw : wordS (tl s i) = W := by rw [hW, hc, wordS_cons hmc, if_neg hnd, if_pos hyl]
          have HC := name_any s i (Nat.le_of_lt hi) (by omega) (w.alloc (.cells #[.int .i64 0, .int .i64 0, .int .i64 0, .string ⟨#[]⟩, .int .i64 0] 29))
          rw [← hW] at HC
          clear hW hqq h39 hyl hnd hdd hmc hmm hd hl hc hT hr hbb hn39 hll
          have HW : Hid (∀ e w', WdP W i w e w' → WdP (wordS (tl s i)) i w e w') := fun e w' h => by rw [hw]; exact h
          clear hw
          go_enter Tryd.func22, Tryd.ntmps22
          go_wp2_with fail
          refine (dig_any _ _).mono ?_
          rintro e w' ⟨rfl, rfl⟩
          rw [HD.out]
          go_wp2_with fail
          refine (hm _).mono ?_
          rintro e w' ⟨rfl, rfl⟩
          rw [HM.out]
          go_wp2_with fail
          refine (hq _).mono ?_
          rintro e w' ⟨rfl, rfl⟩
          rw [HQ.out]
          go_wp2_with fail
          refine (let_any _ _).mono ?_
          rintro e w' ⟨rfl, rfl⟩
          rw [HL.out]
          go_wp2_with fail
          refine (HC).mono ?_
          intro e w1 hP
          have HB1 : Hid (Below w.heap.size w w1) := HB.out.trans (hP.1.mono HB.out.size)
          have K := HK.out.go hP.1
          cases W with
          | error c =>
            obtain rfl := hP.2
            clear hP K
            simp only [panV]
            go_wp2_with fail
            exact ⟨rfl, HW.out _ _ ⟨HB1.out, rfl⟩⟩
          | ok tn =>
            obtain ⟨t, n⟩ := tn
            obtain rfl := hP.2
            have r0 := K.c0
            have r1 := K.c1
            have r2 := K.c2
            have r3 := K.c3
            have r4 := K.c4
            have f0 := K.fr 0
            have f1 := K.fr 1
            have f2 := K.fr 2
            have f3 := K.fr 3
            have f4 := K.fr 4
            clear hP
            obtain ⟨tk, tf, tn, tt⟩ := t
            simp only [tokV]
            go_wp2_with fail
            have F := K.set5 (.int .i64 tk) (.int .i64 tf) (.int .i64 tn) (.string ⟨tt.toArray⟩) (.int .i64 i)
            have q0 := F.c0
            have q1 := F.c1
            have q2 := F.c2
            have q3 := F.c3
            have q4 := F.c4
            refine bodyPost_ret (v := .tuple #[tokV ⟨tk, tf, tn, tt⟩ i, .int .i64 ((i + n : Nat) : Int)]) (by simp [results, Tryd.results22, go_sem, tokV, q0, q1, q2, q3, q4]) rfl (HW.out _ _ ⟨bel_set5 HB1.out (Nat.le_refl _) _ _ _ _ _, rfl⟩)
    · have HD : Hid (dgI (bt s i) = true) := hdd
      have hyd : isDg (s.data.toList.getD i 0) = true := by rw [← hd, hdd]
      obtain ⟨W, hW⟩ : ∃ W, W = numW false (((tl s i).drop (if false = true then 2 else 0)).takeWhile isDg) := ⟨_, rfl⟩
      have hw : wordS (tl s i) = W := by rw [hW, if_neg Bool.false_ne_true, List.drop_zero, hc, word_dig hmc hyd]
      have HC := num_any s i (Nat.le_of_lt hi) hs _ HR.out false hmm
      rw [← hW] at HC
      clear hW hqq hyd hdd hmc hmm hd hl hc hT hr hbb
      have HW : Hid (∀ e w', WdP W i w e w' → WdP (wordS (tl s i)) i w e w') := fun e w' h => by rw [hw]; exact h
      clear hw
      go_enter Tryd.func22, Tryd.ntmps22
      go_wp2_with fail
      refine (dig_any _ _).mono ?_
      rintro e w' ⟨rfl, rfl⟩
      rw [HD.out]
      go_wp2_with fail
      refine (HC).mono ?_
      intro e w1 hP
      have HB1 : Hid (Below w.heap.size w w1) := HB.out.trans (hP.1.mono HB.out.size)
      have K := HK.out.go hP.1
      cases W with
      | error c =>
        obtain rfl := hP.2
        clear hP K
        simp only [panV]
        go_wp2_with fail
        exact ⟨rfl, HW.out _ _ ⟨HB1.out, rfl⟩⟩
      | ok tn =>
        obtain ⟨t, n⟩ := tn
        obtain rfl := hP.2
        have r0 := K.c0
        have r1 := K.c1
        have r2 := K.c2
        have r3 := K.c3
        have r4 := K.c4
        have f0 := K.fr 0
        have f1 := K.fr 1
        have f2 := K.fr 2
        have f3 := K.fr 3
        have f4 := K.fr 4
        clear hP
        obtain ⟨tk, tf, tn, tt⟩ := t
        simp only [tokV]
        go_wp2_with fail
        have F := K.set5 (.int .i64 tk) (.int .i64 tf) (.int .i64 tn) (.string ⟨tt.toArray⟩) (.int .i64 i)
        have q0 := F.c0
        have q1 := F.c1
        have q2 := F.c2
        have q3 := F.c3
        have q4 := F.c4
        refine bodyPost_ret (v := .tuple #[tokV ⟨tk, tf, tn, tt⟩ i, .int .i64 ((i + n : Nat) : Int)]) (by simp [results, Tryd.results22, go_sem, tokV, q0, q1, q2, q3, q4]) rfl (HW.out _ _ ⟨bel_set5 HB1.out (Nat.le_refl _) _ _ _ _ _, rfl⟩)
  · have HM : Hid (hasPrefix (tl s i) ((⟨#[194, 175]⟩ : ByteArray).data.toList) = true) := hmm
    have HD : Hid (dgI (bt s i) = false) := by
      show _ = _
      obtain ⟨r, hrr⟩ := minus_split hmm
      rw [hc] at hrr
      rw [hd, (List.cons.inj hrr).1]; rfl
    obtain ⟨W, hW⟩ : ∃ W, W = numW true (((tl s i).drop (if true = true then 2 else 0)).takeWhile isDg) := ⟨_, rfl⟩
    have hw : wordS (tl s i) = W := by rw [hW, if_pos rfl, word_num hmm]
    have HC := num_any s i (Nat.le_of_lt hi) hs _ HR.out true hmm
    rw [← hW] at HC
    clear hW hqq hmm hd hl hc hT hr hbb
    have HW : Hid (∀ e w', WdP W i w e w' → WdP (wordS (tl s i)) i w e w') := fun e w' h => by rw [hw]; exact h
    clear hw
    go_enter Tryd.func22, Tryd.ntmps22
    go_wp2_with fail
    refine (dig_any _ _).mono ?_
    rintro e w' ⟨rfl, rfl⟩
    rw [HD.out]
    go_wp2_with fail
    refine (hm _).mono ?_
    rintro e w' ⟨rfl, rfl⟩
    rw [HM.out]
    go_wp2_with fail
    refine (HC).mono ?_
    intro e w1 hP
    have HB1 : Hid (Below w.heap.size w w1) := HB.out.trans (hP.1.mono HB.out.size)
    have K := HK.out.go hP.1
    cases W with
    | error c =>
      obtain rfl := hP.2
      clear hP K
      simp only [panV]
      go_wp2_with fail
      exact ⟨rfl, HW.out _ _ ⟨HB1.out, rfl⟩⟩
    | ok tn =>
      obtain ⟨t, n⟩ := tn
      obtain rfl := hP.2
      have r0 := K.c0
      have r1 := K.c1
      have r2 := K.c2
      have r3 := K.c3
      have r4 := K.c4
      have f0 := K.fr 0
      have f1 := K.fr 1
      have f2 := K.fr 2
      have f3 := K.fr 3
      have f4 := K.fr 4
      clear hP
      obtain ⟨tk, tf, tn, tt⟩ := t
      simp only [tokV]
      go_wp2_with fail
      have F := K.set5 (.int .i64 tk) (.int .i64 tf) (.int .i64 tn) (.string ⟨tt.toArray⟩) (.int .i64 i)
      have q0 := F.c0
      have q1 := F.c1
      have q2 := F.c2
      have q3 := F.c3
      have q4 := F.c4
      refine bodyPost_ret (v := .tuple #[tokV ⟨tk, tf, tn, tt⟩ i, .int .i64 ((i + n : Nat) : Int)]) (by simp [results, Tryd.results22, go_sem, tokV, q0, q1, q2, q3, q4]) rfl (HW.out _ _ ⟨bel_set5 HB1.out (Nat.le_refl _) _ _ _ _ _, rfl⟩)
end Go.Proofs.YthfdpfekjcdlbaaDoor
