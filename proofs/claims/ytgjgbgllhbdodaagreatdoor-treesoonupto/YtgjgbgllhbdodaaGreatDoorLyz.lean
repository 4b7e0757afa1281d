
/-
  The reference tells a word's text.
-/
import Derived.Test.YtgjgbgllhbdodaaGreatDoorLyk
import Derived.Test.YtgjgbgllhbdodaaGreatDoorLyx
namespace Go.Proofs.YtgjgbgllhbdodaaGreatDoor
open Go.RowKit Go.Lib
set_option linter.unusedVariables false

theorem dblQ_app : ∀ a b : List UInt8, dblQ (a ++ b) = dblQ a ++ dblQ b
  | [], b => rfl
  | x :: a, b => by
    by_cases h : x.toNat = 39
    · show (if x.toNat = 39 then 39 :: 39 :: dblQ (a ++ b) else x :: dblQ (a ++ b)) = (if x.toNat = 39 then 39 :: 39 :: dblQ a else x :: dblQ a) ++ dblQ b
      rw [if_pos h, if_pos h, dblQ_app a b]; rfl
    · show (if x.toNat = 39 then 39 :: 39 :: dblQ (a ++ b) else x :: dblQ (a ++ b)) = (if x.toNat = 39 then 39 :: 39 :: dblQ a else x :: dblQ a) ++ dblQ b
      rw [if_neg h, if_neg h, dblQ_app a b]; rfl
theorem dblQ_one {s : ByteArray} {i : Nat} (hi : i < s.size) : dblQ ((tl s 0).take (i + 1)) = dblQ ((tl s 0).take i) ++ if bt s i = 39 then [39, 39] else [s.data.toList.getD i 0] := by
  have hl : i < s.data.toList.length := by rw [← size_eq]; exact hi
  rw [tl_zero, List.take_succ_eq_append_getElem hl, dblQ_app]
  have hb : bt s i = (s.data.toList[i]).toNat := by unfold bt; rw [List.getD_eq_getElem?_getD, List.getElem?_eq_getElem hl]; rfl
  have hg : s.data.toList.getD i 0 = s.data.toList[i] := by rw [List.getD_eq_getElem?_getD, List.getElem?_eq_getElem hl]; rfl
  rw [hb, hg]
  show _ ++ (if (s.data.toList[i]).toNat = 39 then 39 :: 39 :: dblQ [] else s.data.toList[i] :: dblQ []) = _
  by_cases h : (s.data.toList[i]).toNat = 39
  · rw [if_pos h, if_pos h]; rfl
  · rw [if_neg h, if_neg h]; rfl
/-- What the reference tells of a word's text. -/
def RsP (S : Sp) (w : World) (e : Ending) (w' : World) : Prop :=
  Below w.heap.size w w' ∧ match S with
    | Except.ok b => e = .returned (.tuple #[.string ⟨b.toArray⟩, .int .i64 0])
    | Except.error c => ∃ Y : ByteArray, e = .returned (.tuple #[.string Y, .int .i64 c])
set_option maxRecDepth 100000 in
set_option maxHeartbeats 2000000 in
theorem rs_1f (f n : Int) (X : ByteArray) (a : Int) (w : World) (S : Sp) (HS : Hid (S = .bad 1)) (hf : f ≠ 0) :
    Calls Tryz.prog 40 #[.agg #[.int .i64 1, .int .i64 f, .int .i64 n, .string X, .int .i64 a]] w (RsP S w) := by
  have ef : (f != 0) = true := by simpa using hf
  clear hf
  go_enter Tryz.func40, Tryz.ntmps40
  go_wp2_with fail
  exact bodyPost_ret (v := .tuple #[.string ⟨#[]⟩, .int .i64 1]) (by simp [results, Tryz.results40, go_sem]; done) rfl (by rw [HS.out]; exact ⟨(Below.refl _ w).alloc (Nat.le_refl _) _, _, rfl⟩)
set_option maxRecDepth 100000 in
set_option maxHeartbeats 2000000 in
theorem rs_1x (f n : Int) (X : ByteArray) (a : Int) (w : World) (S : Sp) (HS : Hid (S = .bad 1)) (hf : f = 0) (hx : X.toList.isEmpty = false)  :
    Calls Tryz.prog 40 #[.agg #[.int .i64 1, .int .i64 f, .int .i64 n, .string X, .int .i64 a]] w (RsP S w) := by
  subst hf
  go_enter Tryz.func40, Tryz.ntmps40
  go_wp2_with fail
  exact bodyPost_ret (v := .tuple #[.string ⟨#[]⟩, .int .i64 1]) (by simp [results, Tryz.results40, go_sem]; done) rfl (by rw [HS.out]; exact ⟨(Below.refl _ w).alloc (Nat.le_refl _) _, _, rfl⟩)
set_option maxRecDepth 100000 in
set_option maxHeartbeats 2000000 in
theorem rs_2n (f n : Int) (X : ByteArray) (a : Int) (w : World) (S : Sp) (HS : Hid (S = .bad 1)) (hn : n ≠ 0) :
    Calls Tryz.prog 40 #[.agg #[.int .i64 2, .int .i64 f, .int .i64 n, .string X, .int .i64 a]] w (RsP S w) := by
  have en : (n != 0) = true := by simpa using hn
  clear hn
  go_enter Tryz.func40, Tryz.ntmps40
  go_wp2_with fail
  exact bodyPost_ret (v := .tuple #[.string ⟨#[]⟩, .int .i64 1]) (by simp [results, Tryz.results40, go_sem]; done) rfl (by rw [HS.out]; exact ⟨(Below.refl _ w).alloc (Nat.le_refl _) _, _, rfl⟩)
set_option maxRecDepth 100000 in
set_option maxHeartbeats 2000000 in
theorem rs_2f (f n : Int) (X : ByteArray) (a : Int) (w : World) (S : Sp) (HS : Hid (S = .bad 1)) (hn : n = 0) (hf : f ≠ 0) :
    Calls Tryz.prog 40 #[.agg #[.int .i64 2, .int .i64 f, .int .i64 n, .string X, .int .i64 a]] w (RsP S w) := by
  subst hn
  have ef : (f != 0) = true := by simpa using hf
  clear hf
  go_enter Tryz.func40, Tryz.ntmps40
  go_wp2_with fail
  exact bodyPost_ret (v := .tuple #[.string ⟨#[]⟩, .int .i64 1]) (by simp [results, Tryz.results40, go_sem]; done) rfl (by rw [HS.out]; exact ⟨(Below.refl _ w).alloc (Nat.le_refl _) _, _, rfl⟩)
set_option maxRecDepth 100000 in
set_option maxHeartbeats 2000000 in
theorem rs_3n (f n : Int) (X : ByteArray) (a : Int) (w : World) (S : Sp) (HS : Hid (S = .bad 1)) (hn : n ≠ 0) :
    Calls Tryz.prog 40 #[.agg #[.int .i64 3, .int .i64 f, .int .i64 n, .string X, .int .i64 a]] w (RsP S w) := by
  have en : (n != 0) = true := by simpa using hn
  clear hn
  go_enter Tryz.func40, Tryz.ntmps40
  go_wp2_with fail
  exact bodyPost_ret (v := .tuple #[.string ⟨#[]⟩, .int .i64 1]) (by simp [results, Tryz.results40, go_sem]; done) rfl (by rw [HS.out]; exact ⟨(Below.refl _ w).alloc (Nat.le_refl _) _, _, rfl⟩)
set_option maxRecDepth 100000 in
set_option maxHeartbeats 2000000 in
theorem rs_3f (f n : Int) (X : ByteArray) (a : Int) (w : World) (S : Sp) (HS : Hid (S = .bad 1)) (hn : n = 0) (hf : f ≠ 0) :
    Calls Tryz.prog 40 #[.agg #[.int .i64 3, .int .i64 f, .int .i64 n, .string X, .int .i64 a]] w (RsP S w) := by
  subst hn
  have ef : (f != 0) = true := by simpa using hf
  clear hf
  go_enter Tryz.func40, Tryz.ntmps40
  go_wp2_with fail
  exact bodyPost_ret (v := .tuple #[.string ⟨#[]⟩, .int .i64 1]) (by simp [results, Tryz.results40, go_sem]; done) rfl (by rw [HS.out]; exact ⟨(Below.refl _ w).alloc (Nat.le_refl _) _, _, rfl⟩)
set_option maxRecDepth 100000 in
set_option maxHeartbeats 2000000 in
theorem rs_4n (f n : Int) (X : ByteArray) (a : Int) (w : World) (S : Sp) (HS : Hid (S = .bad 1)) (hn : n ≠ 0) :
    Calls Tryz.prog 40 #[.agg #[.int .i64 4, .int .i64 f, .int .i64 n, .string X, .int .i64 a]] w (RsP S w) := by
  have en : (n != 0) = true := by simpa using hn
  clear hn
  go_enter Tryz.func40, Tryz.ntmps40
  go_wp2_with fail
  exact bodyPost_ret (v := .tuple #[.string ⟨#[]⟩, .int .i64 1]) (by simp [results, Tryz.results40, go_sem]; done) rfl (by rw [HS.out]; exact ⟨(Below.refl _ w).alloc (Nat.le_refl _) _, _, rfl⟩)
set_option maxRecDepth 100000 in
set_option maxHeartbeats 2000000 in
theorem rs_4x (f n : Int) (X : ByteArray) (a : Int) (w : World) (S : Sp) (HS : Hid (S = .bad 1)) (hn : n = 0) (hx : X.toList.isEmpty = false)  :
    Calls Tryz.prog 40 #[.agg #[.int .i64 4, .int .i64 f, .int .i64 n, .string X, .int .i64 a]] w (RsP S w) := by
  subst hn
  go_enter Tryz.func40, Tryz.ntmps40
  go_wp2_with fail
  exact bodyPost_ret (v := .tuple #[.string ⟨#[]⟩, .int .i64 1]) (by simp [results, Tryz.results40, go_sem]; done) rfl (by rw [HS.out]; exact ⟨(Below.refl _ w).alloc (Nat.le_refl _) _, _, rfl⟩)
set_option maxRecDepth 100000 in
set_option maxHeartbeats 2000000 in
theorem rs_kn (k f n : Int) (X : ByteArray) (a : Int) (w : World) (S : Sp) (HS : Hid (S = .bad 1)) (hk : k ≠ 1 ∧ k ≠ 2 ∧ k ≠ 3 ∧ k ≠ 4) (hn : n ≠ 0) :
    Calls Tryz.prog 40 #[.agg #[.int .i64 k, .int .i64 f, .int .i64 n, .string X, .int .i64 a]] w (RsP S w) := by
  have e1 : (k != 1) = true := by simpa using hk.1
  have e2 : (k != 2) = true := by simpa using hk.2.1
  have e3 : (k != 3) = true := by simpa using hk.2.2.1
  have e4 : (k != 4) = true := by simpa using hk.2.2.2
  have g1 : (k == 1) = false := beq_eq_false_iff_ne.2 hk.1
  have g2 : (k == 2) = false := beq_eq_false_iff_ne.2 hk.2.1
  have g3 : (k == 3) = false := beq_eq_false_iff_ne.2 hk.2.2.1
  have g4 : (k == 4) = false := beq_eq_false_iff_ne.2 hk.2.2.2
  clear hk
  have en : (n != 0) = true := by simpa using hn
  clear hn
  go_enter Tryz.func40, Tryz.ntmps40
  go_wp2_with fail
  exact bodyPost_ret (v := .tuple #[.string ⟨#[]⟩, .int .i64 1]) (by simp [results, Tryz.results40, go_sem]; done) rfl (by rw [HS.out]; exact ⟨(Below.refl _ w).alloc (Nat.le_refl _) _, _, rfl⟩)
set_option maxRecDepth 100000 in
set_option maxHeartbeats 2000000 in
theorem rs_kf (k f n : Int) (X : ByteArray) (a : Int) (w : World) (S : Sp) (HS : Hid (S = .bad 1)) (hk : k ≠ 1 ∧ k ≠ 2 ∧ k ≠ 3 ∧ k ≠ 4) (hn : n = 0) (hf : f ≠ 0) :
    Calls Tryz.prog 40 #[.agg #[.int .i64 k, .int .i64 f, .int .i64 n, .string X, .int .i64 a]] w (RsP S w) := by
  have e1 : (k != 1) = true := by simpa using hk.1
  have e2 : (k != 2) = true := by simpa using hk.2.1
  have e3 : (k != 3) = true := by simpa using hk.2.2.1
  have e4 : (k != 4) = true := by simpa using hk.2.2.2
  have g1 : (k == 1) = false := beq_eq_false_iff_ne.2 hk.1
  have g2 : (k == 2) = false := beq_eq_false_iff_ne.2 hk.2.1
  have g3 : (k == 3) = false := beq_eq_false_iff_ne.2 hk.2.2.1
  have g4 : (k == 4) = false := beq_eq_false_iff_ne.2 hk.2.2.2
  clear hk
  subst hn
  have ef : (f != 0) = true := by simpa using hf
  clear hf
  go_enter Tryz.func40, Tryz.ntmps40
  go_wp2_with fail
  exact bodyPost_ret (v := .tuple #[.string ⟨#[]⟩, .int .i64 1]) (by simp [results, Tryz.results40, go_sem]; done) rfl (by rw [HS.out]; exact ⟨(Below.refl _ w).alloc (Nat.le_refl _) _, _, rfl⟩)
set_option maxRecDepth 100000 in
set_option maxHeartbeats 2000000 in
theorem rs_kx (k f n : Int) (X : ByteArray) (a : Int) (w : World) (S : Sp) (HS : Hid (S = .bad 1)) (hk : k ≠ 1 ∧ k ≠ 2 ∧ k ≠ 3 ∧ k ≠ 4) (hn : n = 0) (hf : f = 0) (hx : X.toList.isEmpty = false)  :
    Calls Tryz.prog 40 #[.agg #[.int .i64 k, .int .i64 f, .int .i64 n, .string X, .int .i64 a]] w (RsP S w) := by
  have e1 : (k != 1) = true := by simpa using hk.1
  have e2 : (k != 2) = true := by simpa using hk.2.1
  have e3 : (k != 3) = true := by simpa using hk.2.2.1
  have e4 : (k != 4) = true := by simpa using hk.2.2.2
  have g1 : (k == 1) = false := beq_eq_false_iff_ne.2 hk.1
  have g2 : (k == 2) = false := beq_eq_false_iff_ne.2 hk.2.1
  have g3 : (k == 3) = false := beq_eq_false_iff_ne.2 hk.2.2.1
  have g4 : (k == 4) = false := beq_eq_false_iff_ne.2 hk.2.2.2
  clear hk
  subst hn
  subst hf
  go_enter Tryz.func40, Tryz.ntmps40
  go_wp2_with fail
  exact bodyPost_ret (v := .tuple #[.string ⟨#[]⟩, .int .i64 1]) (by simp [results, Tryz.results40, go_sem]; done) rfl (by rw [HS.out]; exact ⟨(Below.refl _ w).alloc (Nat.le_refl _) _, _, rfl⟩)
set_option maxRecDepth 100000 in
set_option maxHeartbeats 2000000 in
theorem rs_1 (f n : Int) (X : ByteArray) (a : Int) (w : World) (S : Sp) (HS : Hid (S = .ok (digS n))) (hr : InR n) (hf : f = 0) (hx : X.toList.isEmpty = true)  :
    Calls Tryz.prog 40 #[.agg #[.int .i64 1, .int .i64 f, .int .i64 n, .string X, .int .i64 a]] w (RsP S w) := by
  subst hf
  have HB : Hid (Below w.heap.size w (w.alloc (.cells #[.int .i64 1, .int .i64 0, .int .i64 n, .string X, .int .i64 a] 30))) := (Below.refl _ w).alloc (Nat.le_refl _) _
  have HK : Hid (Tbx (w.alloc (.cells #[.int .i64 1, .int .i64 0, .int .i64 n, .string X, .int .i64 a] 30)) w.heap.size (.int .i64 1) (.int .i64 0) (.int .i64 n) (.string X) (.int .i64 a)) := Tbx.new w _ _ _ _ _
  go_enter Tryz.func40, Tryz.ntmps40
  go_wp2_with fail
  refine (rdigits_any n hr _).mono ?_
  rintro e w1 ⟨rfl, hB1⟩
  have K1 := HK.out.go hB1
  have HB1 : Hid (Below w.heap.size w w1) := HB.out.trans (hB1.mono HB.out.size)
  clear hB1
  go_wp2_with fail
  exact bodyPost_ret (v := .tuple #[.string ⟨(digS n).toArray⟩, .int .i64 0]) (by simp [results, Tryz.results40, go_sem]; done) rfl (by rw [HS.out]; exact ⟨HB1.out, rfl⟩)
set_option maxRecDepth 100000 in
set_option maxHeartbeats 2000000 in
theorem rs_3 (f n : Int) (X : ByteArray) (a : Int) (w : World) (S : Sp) (hs : X.size ≤ 9223372036854775807) (HS : Hid (S = if namF (tl X 0) = 0 then .ok X.data.toList else .bad (namF (tl X 0)))) (hn : n = 0) (hf : f = 0) :
    Calls Tryz.prog 40 #[.agg #[.int .i64 3, .int .i64 f, .int .i64 n, .string X, .int .i64 a]] w (RsP S w) := by
  subst hn
  subst hf
  have HO : Hid (∀ w', Below w.heap.size w w' → RsP S w (.returned (.tuple #[.string X, .int .i64 (namF (tl X 0))])) w') := fun w' hB => by
    rw [HS.out]
    by_cases h : namF (tl X 0) = 0
    · rw [if_pos h, h]; exact ⟨hB, rfl⟩
    · rw [if_neg h]; exact ⟨hB, X, rfl⟩
  have hcn := fun w => rname_any X hs w
  have HB : Hid (Below w.heap.size w (w.alloc (.cells #[.int .i64 3, .int .i64 0, .int .i64 0, .string X, .int .i64 a] 30))) := (Below.refl _ w).alloc (Nat.le_refl _) _
  have HK : Hid (Tbx (w.alloc (.cells #[.int .i64 3, .int .i64 0, .int .i64 0, .string X, .int .i64 a] 30)) w.heap.size (.int .i64 3) (.int .i64 0) (.int .i64 0) (.string X) (.int .i64 a)) := Tbx.new w _ _ _ _ _
  go_enter Tryz.func40, Tryz.ntmps40
  go_wp2_with fail
  go_quiet ((go_at_call 80; exact Calls.quiet_of_same (hcn _)))
  go_wp2_with fail
  exact bodyPost_ret (v := .tuple #[.string X, .int .i64 (namF (tl X 0))]) (by simp [results, Tryz.results40, go_sem]; done) rfl (HO.out _ (bel_drewN HB.out _))
set_option maxRecDepth 100000 in
set_option maxHeartbeats 2000000 in
theorem rs_2n_ (f n : Int) (X : ByteArray) (a : Int) (w : World) (S : Sp) (hs : X.size ≤ 1048576) (HS : Hid (S = .bad 1)) (hq : qbl (tl X 0) = false) (hn : n = 0) (hf : f = 0) :
    Calls Tryz.prog 40 #[.agg #[.int .i64 2, .int .i64 f, .int .i64 n, .string X, .int .i64 a]] w (RsP S w) := by
  subst hn
  subst hf
  have HQ : Hid (qbl (tl X 0) = false) := hq
  clear hq
  have HB : Hid (Below w.heap.size w (w.alloc (.cells #[.int .i64 2, .int .i64 0, .int .i64 0, .string X, .int .i64 a] 30))) := (Below.refl _ w).alloc (Nat.le_refl _) _
  have HK : Hid (Tbx (w.alloc (.cells #[.int .i64 2, .int .i64 0, .int .i64 0, .string X, .int .i64 a] 30)) w.heap.size (.int .i64 2) (.int .i64 0) (.int .i64 0) (.string X) (.int .i64 a)) := Tbx.new w _ _ _ _ _
  go_enter Tryz.func40, Tryz.ntmps40
  go_wp2_with fail
  refine (quot_any X hs _).mono ?_
  rintro e w1 ⟨rfl, hB1⟩
  have K1 := HK.out.go hB1
  have HB1 : Hid (Below w.heap.size w w1) := HB.out.trans (hB1.mono HB.out.size)
  clear hB1
  rw [HQ.out]
  go_wp2_with fail
  exact bodyPost_ret (v := .tuple #[.string ⟨#[]⟩, .int .i64 1]) (by simp [results, Tryz.results40, go_sem]; done) rfl (by rw [HS.out]; exact ⟨HB1.out, _, rfl⟩)
set_option maxRecDepth 100000 in
set_option maxHeartbeats 2000000 in
theorem rs_2 (f n : Int) (X : ByteArray) (a : Int) (w : World) (S : Sp) (hs : X.size ≤ 1048576) (HS : Hid (S = .ok (39 :: dblQ (tl X 0) ++ [39]))) (hq : qbl (tl X 0) = true) (hn : n = 0) (hf : f = 0) :
    Calls Tryz.prog 40 #[.agg #[.int .i64 2, .int .i64 f, .int .i64 n, .string X, .int .i64 a]] w (RsP S w) := by
  subst hn
  subst hf
  have HQ : Hid (qbl (tl X 0) = true) := hq
  clear hq
  have HB : Hid (Below w.heap.size w (w.alloc (.cells #[.int .i64 2, .int .i64 0, .int .i64 0, .string X, .int .i64 a] 30))) := (Below.refl _ w).alloc (Nat.le_refl _) _
  have HK : Hid (Tbx (w.alloc (.cells #[.int .i64 2, .int .i64 0, .int .i64 0, .string X, .int .i64 a] 30)) w.heap.size (.int .i64 2) (.int .i64 0) (.int .i64 0) (.string X) (.int .i64 a)) := Tbx.new w _ _ _ _ _
  go_enter Tryz.func40, Tryz.ntmps40
  go_wp2_with fail
  refine (quot_any X hs _).mono ?_
  rintro e w1 ⟨rfl, hB1⟩
  have K1 := HK.out.go hB1
  have HB1 : Hid (Below w.heap.size w w1) := HB.out.trans (hB1.mono HB.out.size)
  clear hB1
  rw [HQ.out]
  have r3 := K1.c3
  clear K1
  go_wp2_with fail
  go_loopw [4, 5] (fun t v wr => ∃ (i : Nat) (T : ByteArray), t = .string T ∧ v = .int .i64 i ∧ i ≤ X.size ∧ T.size ≤ 2 * i + 1 ∧ Hid (T.data.toList = 39 :: dblQ ((tl X 0).take i)) ∧ w1 = wr) (fun _ v _ => X.size - (RowKit.intOf v).toNat)
  case atStart => exact ⟨0, ⟨#[39]⟩, rfl, rfl, Nat.zero_le _, by decide, rfl, rfl⟩
  case round =>
    obtain ⟨i, T, rfl, rfl, hi, hT, HT, rfl⟩ := hrel
    by_cases hlt : i < X.size
    · have hix := index_at X i (i : Int) rfl hlt
      have hlt' : (i : Int) < (X.size : Int) := by omega
      have hst := dblQ_one hlt
      have hcut : (X.extract i (i + 1)).size = 1 := by rw [ByteArray.size_extract]; omega
      have hcat := cat_byte (T := T) hlt
      by_cases h39 : bt X i = 39
      · rw [if_pos h39] at hst
        have t39 : ((bt X i : Int) == 39) = true := by rw [beq_iff_eq]; omega
        have HN : Hid ((T ++ X.extract i (i + 1) ++ (⟨#[39]⟩ : ByteArray)).data.toList = 39 :: dblQ ((tl X 0).take (i + 1))) := by
          show _ = _
          have hb : X.data.toList.getD i 0 = 39 := u8_eq h39
          rw [cat_quote, hcat, HT.out, hst, hb]; simp
        have hz1 : (T ++ X.extract i (i + 1)).size = T.size + 1 := by rw [ByteArray.size_append, hcut]
        have hz2 : (T ++ X.extract i (i + 1) ++ (⟨#[39]⟩ : ByteArray)).size = T.size + 2 := by rw [ByteArray.size_append, hz1]; rfl
        clear h39 hst hcat
        go_wp2_with fail
        refine ⟨⟨i + 1, _, rfl, by first | rfl | go_num, hlt, by rw [hz2]; omega, HN, by first | rfl | trivial⟩, by simp [RowKit.intOf]; omega⟩
      · rw [if_neg h39] at hst
        have t39 : ((bt X i : Int) == 39) = false := by rw [beq_eq_false_iff_ne]; omega
        have HN : Hid ((T ++ X.extract i (i + 1)).data.toList = 39 :: dblQ ((tl X 0).take (i + 1))) := by
          show _ = _
          rw [hcat, HT.out, hst]; simp
        have hz1 : (T ++ X.extract i (i + 1)).size = T.size + 1 := by rw [ByteArray.size_append, hcut]
        clear h39 hst hcat
        go_wp2_with fail
        refine ⟨⟨i + 1, _, rfl, by first | rfl | go_num, hlt, by rw [hz1]; omega, HN, by first | rfl | trivial⟩, by simp [RowKit.intOf]; omega⟩
    · obtain rfl : i = X.size := by omega
      have HF : Hid (T ++ (⟨#[39]⟩ : ByteArray) = ⟨(39 :: dblQ (tl X 0) ++ [39]).toArray⟩) := by
        show _ = _
        apply ByteArray.ext
        apply Array.toList_inj.1
        rw [cat_quote, HT.out, List.take_of_length_le (by rw [tl_len]; omega)]
      go_wp2_with fail
      exact bodyPost_ret (v := .tuple #[.string (T ++ (⟨#[39]⟩ : ByteArray)), .int .i64 0]) (by simp [results, Tryz.results40, go_sem]; done) rfl (by rw [HS.out]; refine ⟨HB1.out, ?_⟩; show _ = _; rw [HF.out])
theorem tab_none {tab : List (List UInt8)} {n : Nat} (h : tab.length ≤ n) : tab.getD n [] = [] := by rw [List.getD_eq_getElem?_getD, List.getElem?_eq_none h]; rfl
theorem bytes_some {l : List UInt8} (h : 1 ≤ l.length) : (⟨l.toArray⟩ : ByteArray).toList.isEmpty = false := emp_no (by show ¬ l = []; intro e; rw [e] at h; simp at h)
set_option maxRecDepth 100000 in
set_option maxHeartbeats 2000000 in
theorem rs_4 (f n : Int) (X : ByteArray) (a : Int) (w : World) (S : Sp) (N : Nat) (hN : f = (N : Int)) (HS : Hid (S = .ok (glyB.getD (N - 1) []))) (h1 : 1 ≤ N) (h2 : N ≤ 34) (hn : n = 0) (hx : X.toList.isEmpty = true)  :
    Calls Tryz.prog 40 #[.agg #[.int .i64 4, .int .i64 f, .int .i64 n, .string X, .int .i64 a]] w (RsP S w) := by
  subst hN
  subst hn
  have h1' : (1 : Int) ≤ (N : Int) := by omega
  have he := bytes_some (gly_len (N - 1) (by omega))
  have HB : Hid (Below w.heap.size w (w.alloc (.cells #[.int .i64 4, .int .i64 (N : Int), .int .i64 0, .string X, .int .i64 a] 30))) := (Below.refl _ w).alloc (Nat.le_refl _) _
  have HK : Hid (Tbx (w.alloc (.cells #[.int .i64 4, .int .i64 (N : Int), .int .i64 0, .string X, .int .i64 a] 30)) w.heap.size (.int .i64 4) (.int .i64 (N : Int)) (.int .i64 0) (.string X) (.int .i64 a)) := Tbx.new w _ _ _ _ _
  go_enter Tryz.func40, Tryz.ntmps40
  go_wp2_with fail
  refine (rnth_any glyB glyB_ok (by decide) _ (show _ = glyB.flatten from rfl) (by decide) N (by omega) (by omega) _).mono ?_
  rintro e w1 ⟨rfl, hB1⟩
  have K1 := HK.out.go hB1
  have HB1 : Hid (Below w.heap.size w w1) := HB.out.trans (hB1.mono HB.out.size)
  clear hB1
  obtain ⟨T, hT⟩ : ∃ T : ByteArray, T = ⟨(glyB.getD (N - 1) []).toArray⟩ := ⟨_, rfl⟩
  have HT : Hid (T = ⟨(glyB.getD (N - 1) []).toArray⟩) := hT
  rw [← hT]
  rw [← hT] at he
  have r0 := K1.c0
  have r1 := K1.c1
  clear K1 hT
  go_wp2_with fail
  exact bodyPost_ret (v := .tuple #[.string T, .int .i64 0]) (by simp [results, Tryz.results40, go_sem]; done) rfl (by rw [HS.out]; refine ⟨HB1.out, ?_⟩; show _ = _; rw [HT.out])
set_option maxRecDepth 100000 in
set_option maxHeartbeats 2000000 in
theorem rs_4h (f n : Int) (X : ByteArray) (a : Int) (w : World) (S : Sp) (N : Nat) (hN : f = (N : Int)) (HS : Hid (S = .bad 1)) (h1 : 34 < N) (h2 : N ≤ 9223372036854775807) (hn : n = 0) (hx : X.toList.isEmpty = true)  :
    Calls Tryz.prog 40 #[.agg #[.int .i64 4, .int .i64 f, .int .i64 n, .string X, .int .i64 a]] w (RsP S w) := by
  subst hN
  subst hn
  have h1' : (1 : Int) ≤ (N : Int) := by omega
  have he : (⟨(glyB.getD (N - 1) []).toArray⟩ : ByteArray).toList.isEmpty = true := by rw [tab_none (show glyB.length ≤ N - 1 by rw [show glyB.length = 34 from rfl]; omega), toList_data]; rfl
  have HB : Hid (Below w.heap.size w (w.alloc (.cells #[.int .i64 4, .int .i64 (N : Int), .int .i64 0, .string X, .int .i64 a] 30))) := (Below.refl _ w).alloc (Nat.le_refl _) _
  have HK : Hid (Tbx (w.alloc (.cells #[.int .i64 4, .int .i64 (N : Int), .int .i64 0, .string X, .int .i64 a] 30)) w.heap.size (.int .i64 4) (.int .i64 (N : Int)) (.int .i64 0) (.string X) (.int .i64 a)) := Tbx.new w _ _ _ _ _
  go_enter Tryz.func40, Tryz.ntmps40
  go_wp2_with fail
  refine (rnth_any glyB glyB_ok (by decide) _ (show _ = glyB.flatten from rfl) (by decide) N (by omega) (by omega) _).mono ?_
  rintro e w1 ⟨rfl, hB1⟩
  have K1 := HK.out.go hB1
  have HB1 : Hid (Below w.heap.size w w1) := HB.out.trans (hB1.mono HB.out.size)
  clear hB1
  obtain ⟨T, hT⟩ : ∃ T : ByteArray, T = ⟨(glyB.getD (N - 1) []).toArray⟩ := ⟨_, rfl⟩
  have HT : Hid (T = ⟨(glyB.getD (N - 1) []).toArray⟩) := hT
  rw [← hT]
  rw [← hT] at he
  have r0 := K1.c0
  have r1 := K1.c1
  clear K1 hT
  go_wp2_with fail
  exact bodyPost_ret (v := .tuple #[.string ⟨#[]⟩, .int .i64 1]) (by simp [results, Tryz.results40, go_sem]; done) rfl (by rw [HS.out]; exact ⟨HB1.out, _, rfl⟩)
set_option maxRecDepth 100000 in
set_option maxHeartbeats 2000000 in
theorem rs_4l (f n : Int) (X : ByteArray) (a : Int) (w : World) (S : Sp) (HS : Hid (S = .bad 1)) (h1 : ¬ 1 ≤ f) (hn : n = 0) (hx : X.toList.isEmpty = true)  :
    Calls Tryz.prog 40 #[.agg #[.int .i64 4, .int .i64 f, .int .i64 n, .string X, .int .i64 a]] w (RsP S w) := by
  subst hn
  go_enter Tryz.func40, Tryz.ntmps40
  go_wp2_with fail
  exact bodyPost_ret (v := .tuple #[.string ⟨#[]⟩, .int .i64 1]) (by simp [results, Tryz.results40, go_sem]; done) rfl (by rw [HS.out]; exact ⟨(Below.refl _ w).alloc (Nat.le_refl _) _, _, rfl⟩)
set_option maxRecDepth 100000 in
set_option maxHeartbeats 2000000 in
theorem rs_k (k f n : Int) (X : ByteArray) (a : Int) (w : World) (S : Sp) (N : Nat) (hN : k = (N : Int) + 4) (HS : Hid (S = .ok (sgnB.getD (N - 1) []))) (h1 : 1 ≤ N) (h2 : N ≤ 16) (hn : n = 0) (hf : f = 0) (hx : X.toList.isEmpty = true)  :
    Calls Tryz.prog 40 #[.agg #[.int .i64 k, .int .i64 f, .int .i64 n, .string X, .int .i64 a]] w (RsP S w) := by
  subst hn
  subst hf
  have hk : k ≠ 1 ∧ k ≠ 2 ∧ k ≠ 3 ∧ k ≠ 4 := by omega
  have e1 : (k != 1) = true := by simpa using hk.1
  have e2 : (k != 2) = true := by simpa using hk.2.1
  have e3 : (k != 3) = true := by simpa using hk.2.2.1
  have e4 : (k != 4) = true := by simpa using hk.2.2.2
  have g1 : (k == 1) = false := beq_eq_false_iff_ne.2 hk.1
  have g2 : (k == 2) = false := beq_eq_false_iff_ne.2 hk.2.1
  have g3 : (k == 3) = false := beq_eq_false_iff_ne.2 hk.2.2.1
  have g4 : (k == 4) = false := beq_eq_false_iff_ne.2 hk.2.2.2
  clear hk
  have h5 : 5 ≤ k := by omega
  have h20 : k ≤ 20 := by omega
  have ha : k - 5 + 1 = (N : Int) := by omega
  clear hN
  have he := bytes_some (sgn_len (N - 1) (by omega))
  have HB : Hid (Below w.heap.size w (w.alloc (.cells #[.int .i64 k, .int .i64 0, .int .i64 0, .string X, .int .i64 a] 30))) := (Below.refl _ w).alloc (Nat.le_refl _) _
  have HK : Hid (Tbx (w.alloc (.cells #[.int .i64 k, .int .i64 0, .int .i64 0, .string X, .int .i64 a] 30)) w.heap.size (.int .i64 k) (.int .i64 0) (.int .i64 0) (.string X) (.int .i64 a)) := Tbx.new w _ _ _ _ _
  go_enter Tryz.func40, Tryz.ntmps40
  go_wp2_with fail
  refine (rnth_any sgnB sgnB_ok (by decide) _ (show _ = sgnB.flatten from rfl) (by decide) N (by omega) (by omega) _).mono ?_
  rintro e w1 ⟨rfl, hB1⟩
  have K1 := HK.out.go hB1
  have HB1 : Hid (Below w.heap.size w w1) := HB.out.trans (hB1.mono HB.out.size)
  clear hB1
  obtain ⟨T, hT⟩ : ∃ T : ByteArray, T = ⟨(sgnB.getD (N - 1) []).toArray⟩ := ⟨_, rfl⟩
  have HT : Hid (T = ⟨(sgnB.getD (N - 1) []).toArray⟩) := hT
  rw [← hT]
  rw [← hT] at he
  have r0 := K1.c0
  have r1 := K1.c1
  clear K1 hT
  go_wp2_with fail
  exact bodyPost_ret (v := .tuple #[.string T, .int .i64 0]) (by simp [results, Tryz.results40, go_sem]; done) rfl (by rw [HS.out]; refine ⟨HB1.out, ?_⟩; show _ = _; rw [HT.out])
set_option maxRecDepth 100000 in
set_option maxHeartbeats 2000000 in
theorem rs_kl (k f n : Int) (X : ByteArray) (a : Int) (w : World) (S : Sp) (HS : Hid (S = .bad 1)) (hk : k ≠ 1 ∧ k ≠ 2 ∧ k ≠ 3 ∧ k ≠ 4) (h1 : ¬ 5 ≤ k) (hn : n = 0) (hf : f = 0) (hx : X.toList.isEmpty = true)  :
    Calls Tryz.prog 40 #[.agg #[.int .i64 k, .int .i64 f, .int .i64 n, .string X, .int .i64 a]] w (RsP S w) := by
  have e1 : (k != 1) = true := by simpa using hk.1
  have e2 : (k != 2) = true := by simpa using hk.2.1
  have e3 : (k != 3) = true := by simpa using hk.2.2.1
  have e4 : (k != 4) = true := by simpa using hk.2.2.2
  have g1 : (k == 1) = false := beq_eq_false_iff_ne.2 hk.1
  have g2 : (k == 2) = false := beq_eq_false_iff_ne.2 hk.2.1
  have g3 : (k == 3) = false := beq_eq_false_iff_ne.2 hk.2.2.1
  have g4 : (k == 4) = false := beq_eq_false_iff_ne.2 hk.2.2.2
  clear hk
  subst hn
  subst hf
  go_enter Tryz.func40, Tryz.ntmps40
  go_wp2_with fail
  exact bodyPost_ret (v := .tuple #[.string ⟨#[]⟩, .int .i64 1]) (by simp [results, Tryz.results40, go_sem]; done) rfl (by rw [HS.out]; exact ⟨(Below.refl _ w).alloc (Nat.le_refl _) _, _, rfl⟩)
set_option maxRecDepth 100000 in
set_option maxHeartbeats 2000000 in
theorem rs_kh (k f n : Int) (X : ByteArray) (a : Int) (w : World) (S : Sp) (HS : Hid (S = .bad 1)) (hk : k ≠ 1 ∧ k ≠ 2 ∧ k ≠ 3 ∧ k ≠ 4) (h1 : 5 ≤ k) (h2 : ¬ k ≤ 20) (hn : n = 0) (hf : f = 0) (hx : X.toList.isEmpty = true)  :
    Calls Tryz.prog 40 #[.agg #[.int .i64 k, .int .i64 f, .int .i64 n, .string X, .int .i64 a]] w (RsP S w) := by
  have e1 : (k != 1) = true := by simpa using hk.1
  have e2 : (k != 2) = true := by simpa using hk.2.1
  have e3 : (k != 3) = true := by simpa using hk.2.2.1
  have e4 : (k != 4) = true := by simpa using hk.2.2.2
  have g1 : (k == 1) = false := beq_eq_false_iff_ne.2 hk.1
  have g2 : (k == 2) = false := beq_eq_false_iff_ne.2 hk.2.1
  have g3 : (k == 3) = false := beq_eq_false_iff_ne.2 hk.2.2.1
  have g4 : (k == 4) = false := beq_eq_false_iff_ne.2 hk.2.2.2
  clear hk
  subst hn
  subst hf
  go_enter Tryz.func40, Tryz.ntmps40
  go_wp2_with fail
  exact bodyPost_ret (v := .tuple #[.string ⟨#[]⟩, .int .i64 1]) (by simp [results, Tryz.results40, go_sem]; done) rfl (by rw [HS.out]; exact ⟨(Below.refl _ w).alloc (Nat.le_refl _) _, _, rfl⟩)
theorem rspelt_any (t : Tk) (a : Int) (hr : InR t.num) (hf : InR t.fn) (hz : t.text.length ≤ 1048576) (w : World) :
    Calls Tryz.prog 40 #[tokI t a] w (RsP (spelS t) w) := by
  obtain ⟨k, f, n, x⟩ := t
  simp only at hr hf hz
  simp only [tokI]
  have hxl : (⟨x.toArray⟩ : ByteArray).data.toList = x := rfl
  have hsz : (⟨x.toArray⟩ : ByteArray).size = x.length := size_mk _
  have htl : tl (⟨x.toArray⟩ : ByteArray) 0 = x := rfl
  have hxe : x = [] → (⟨x.toArray⟩ : ByteArray).toList.isEmpty = true := fun h => by rw [toList_data, hxl, h]; rfl
  have hxn : x ≠ [] → (⟨x.toArray⟩ : ByteArray).toList.isEmpty = false := fun h => emp_no (by rw [hxl]; exact h)
  generalize (⟨x.toArray⟩ : ByteArray) = X at *
  generalize hS : spelS ⟨k, f, n, x⟩ = S
  by_cases hfl : fldF ⟨k, f, n, x⟩ = true
  · have hb : S = .bad 1 := by rw [← hS]; unfold spelS; rw [if_pos hfl]
    have HS : Hid (S = .bad 1) := hb
    have h3 : (k ≠ 1 ∧ n ≠ 0) ∨ (k ≠ 4 ∧ f ≠ 0) ∨ (k ≠ 3 ∧ k ≠ 2 ∧ x ≠ []) := by
      unfold fldF at hfl
      rw [Bool.or_eq_true, Bool.or_eq_true, decide_eq_true_iff, decide_eq_true_iff, decide_eq_true_iff] at hfl
      rcases hfl with (h | h) | h
      · exact .inl h
      · exact .inr (.inl h)
      · exact .inr (.inr h)
    by_cases k1 : k = 1
    · subst k1
      by_cases hf0 : f = 0
      · exact rs_1x f n X a w S HS hf0 (hxn (by rcases h3 with h | h | h <;> first | omega | exact absurd hf0 h.2 | exact h.2.2))
      · exact rs_1f f n X a w S HS hf0
    by_cases k2 : k = 2
    · subst k2
      by_cases hn0 : n = 0
      · exact rs_2f f n X a w S HS hn0 (by rcases h3 with h | h | h <;> first | omega | exact h.2 | omega)
      · exact rs_2n f n X a w S HS hn0
    by_cases k3 : k = 3
    · subst k3
      by_cases hn0 : n = 0
      · exact rs_3f f n X a w S HS hn0 (by rcases h3 with h | h | h <;> first | omega | exact h.2 | omega)
      · exact rs_3n f n X a w S HS hn0
    by_cases k4 : k = 4
    · subst k4
      by_cases hn0 : n = 0
      · exact rs_4x f n X a w S HS hn0 (hxn (by rcases h3 with h | h | h <;> first | omega | omega | exact h.2.2))
      · exact rs_4n f n X a w S HS hn0
    by_cases hn0 : n = 0
    · by_cases hf0 : f = 0
      · exact rs_kx k f n X a w S HS ⟨k1, k2, k3, k4⟩ hn0 hf0 (hxn (by rcases h3 with h | h | h <;> first | omega | omega | exact h.2.2))
      · exact rs_kf k f n X a w S HS ⟨k1, k2, k3, k4⟩ hn0 hf0
    · exact rs_kn k f n X a w S HS ⟨k1, k2, k3, k4⟩ hn0
  · obtain ⟨f1, f2, f3⟩ := fld_no hfl
    simp only at f1 f2 f3
    unfold spelS at hS
    rw [if_neg hfl] at hS
    simp only at hS
    by_cases k1 : k = 1
    · rw [if_pos k1] at hS
      subst k1
      have hx0 : x = [] := by rcases f3 with h | h | h <;> first | omega | exact h
      exact rs_1 f n X a w S hS.symm hr (by omega) (hxe hx0)
    rw [if_neg k1] at hS
    by_cases k3 : k = 3
    · rw [if_pos k3] at hS
      subst k3
      refine rs_3 f n X a w S (by rw [hsz]; omega) ?_ (by omega) (by omega)
      show _ = _
      rw [htl, hxl]; exact hS.symm
    rw [if_neg k3] at hS
    by_cases k2 : k = 2
    · rw [if_pos k2] at hS
      subst k2
      by_cases hq : qbl x = true
      · rw [if_pos hq] at hS
        exact rs_2 f n X a w S (by rw [hsz]; exact hz) (by show _ = _; rw [htl]; exact hS.symm) (by rw [htl]; exact hq) (by omega) (by omega)
      · rw [if_neg hq] at hS
        exact rs_2n_ f n X a w S (by rw [hsz]; exact hz) hS.symm (by rw [htl]; exact Bool.eq_false_iff.2 hq) (by omega) (by omega)
    rw [if_neg k2] at hS
    have hx0 : x = [] := by rcases f3 with h | h | h <;> first | omega | exact h
    by_cases k4 : k = 4
    · rw [if_pos k4] at hS
      subst k4
      by_cases h1 : 1 ≤ f
      · by_cases h2 : f ≤ 34
        · rw [if_pos ⟨h1, h2⟩] at hS
          exact rs_4 f n X a w S f.toNat (by omega) hS.symm (by omega) (by omega) (by omega) (hxe hx0)
        · rw [if_neg (fun h => h2 h.2)] at hS
          exact rs_4h f n X a w S f.toNat (by omega) hS.symm (by omega) (by have := hf.2; omega) (by omega) (hxe hx0)
      · rw [if_neg (fun h => h1 h.1)] at hS
        exact rs_4l f n X a w S hS.symm h1 (by omega) (hxe hx0)
    rw [if_neg k4] at hS
    by_cases h1 : 5 ≤ k
    · by_cases h2 : k ≤ 20
      · rw [if_pos ⟨h1, h2⟩] at hS
        refine rs_k k f n X a w S (k.toNat - 4) (by omega) ?_ (by omega) (by omega) (by omega) (by omega) (hxe hx0)
        show _ = _
        rw [show k.toNat - 4 - 1 = k.toNat - 5 by omega]; exact hS.symm
      · rw [if_neg (fun h => h2 h.2)] at hS
        exact rs_kh k f n X a w S hS.symm ⟨k1, k2, k3, k4⟩ h1 h2 (by omega) (by omega) (hxe hx0)
    · rw [if_neg (fun h => h1 h.1)] at hS
      exact rs_kl k f n X a w S hS.symm ⟨k1, k2, k3, k4⟩ h1 (by omega) (by omega) (hxe hx0)
end Go.Proofs.YtgjgbgllhbdodaaGreatDoor
