
/-
  The reference's signs by number, the digits of a number, what is wrong with a name.
-/
import Derived.BigQuiet
import Derived.Laws.DeepStrings4
import Derived.Test.YtgjgbgllhbdodaaGreatDoorLyb
import Derived.Test.YtgjgbgllhbdodaaGreatDoorLyk
namespace Go.Proofs.YtgjgbgllhbdodaaGreatDoor
open Go.RowKit Go.Lib
set_option linter.unusedVariables false

set_option maxRecDepth 100000 in
set_option maxHeartbeats 4000000 in
theorem rnth_any (tab : List (List UInt8)) (hw : TabOk tab) (htl : tab.length ≤ 1000) (p : ByteArray) (hp : p.data.toList = tab.flatten) (hps : p.size ≤ 1000) (n : Nat) (hn : 1 ≤ n) (hn2 : n ≤ 9223372036854775807) (w : World) :
    Calls Tryz.prog 82 #[.string p, .int .i64 (n : Int)] w fun e w' => e = .returned (.string ⟨(tab.getD (n - 1) []).toArray⟩) ∧ Below w.heap.size w w' := by
  have HO : Hid (∀ j, j < tab.length → offS tab (j + 1) = offS tab j + (tab.getD j []).length ∧ offS tab (j + 1) ≤ p.size ∧ (tab.getD j []).length = wid (bt p (offS tab j)) ∧ ∃ r, tl p (offS tab j) = tab.getD j [] ++ r) := fun j hj => off_at hp hw hj
  have HE : Hid (offS tab tab.length = p.size) := off_end hp
  obtain ⟨R, hR⟩ : ∃ R, R = tab.getD (n - 1) [] := ⟨_, rfl⟩
  rw [← hR]
  have HRR : Hid (R = tab.getD (n - 1) []) := hR
  clear hw hp hR
  go_enter Tryz.func82, Tryz.ntmps82
  go_wp2_with fail
  go_loopw [1, 5] (fun m v wr => ∃ j : Nat, j ≤ tab.length ∧ j < n ∧ m = .int .i64 ((n - j : Nat) : Int) ∧ v = .int .i64 (offS tab j) ∧ Hid (Below w.heap.size w wr)) (fun _ v _ => p.size - (RowKit.intOf v).toNat)
  case atStart => exact ⟨0, Nat.zero_le _, by omega, rfl, rfl, Below.refl _ _⟩
  case round =>
    obtain ⟨j, hj, hjn, rfl, rfl, HB⟩ := hrel
    by_cases hlt : j < tab.length
    · obtain ⟨o1, o2, o3, r, o4⟩ := HO.out j hlt
      have hwp := wid_pos (bt p (offS tab j))
      have hop : offS tab j < p.size := by omega
      have hbt := bt_get p (offS tab j) hop
      have hix := index_at p (offS tab j) (offS tab j : Int) rfl hop
      have HG : Hid (p.extract (offS tab j) (offS tab j + (tab.getD j []).length) = ⟨(tab.getD j []).toArray⟩) := by
        show _ = _
        apply ByteArray.ext
        apply Array.toList_inj.1
        rw [extract_data, Nat.add_sub_cancel_left]
        show (tl p (offS tab j)).take _ = tab.getD j []
        rw [o4]; exact List.take_left
      have hjl : (offS tab j : Int) < (p.size : Int) := by omega
      have HO1 : Hid (offS tab (j + 1) = offS tab j + (tab.getD j []).length) := o1
      obtain ⟨L, hL⟩ : ∃ L, L = (tab.getD j []).length := ⟨_, rfl⟩
      rw [← hL] at o1 o3 HG HO1
      have HN1 : Hid (n - (j + 1) = n - j - 1) := by show _ = _; omega
      clear o4 hL hbt
      generalize hO : offS tab j = O at *
      generalize hb : bt p O = b at *
      clear hb hO
      have hb3 : (224 ≤ b ∧ L = 3) ∨ (b < 224 ∧ 192 ≤ b ∧ L = 2) ∨ (b < 224 ∧ b < 192 ∧ L = 1) := by
        unfold wid at o3
        by_cases h1 : 224 ≤ b
        · rw [if_pos h1] at o3; omega
        · rw [if_neg h1] at o3
          by_cases h2 : 192 ≤ b
          · rw [if_pos h2] at o3; omega
          · rw [if_neg h2] at o3; omega
      have hm : ((n - j : Nat) : Int) - 1 = ((n - j - 1 : Nat) : Int) := by omega
      by_cases hfin : n - j = 1
      · have HR : Hid (tab.getD (n - 1) [] = tab.getD j []) := by show _ = _; rw [show n - 1 = j by omega]
        have tz : (((n - j - 1 : Nat) : Int) == 0) = true := by rw [beq_iff_eq]; omega
        clear o3 hwp hfin HN1
        rcases hb3 with ⟨h1, rfl⟩ | ⟨h1, h2, rfl⟩ | ⟨h1, h2, rfl⟩
        all_goals
          go_wp2_with fail
          go_ret
          exact ⟨str_ret (HG.out.trans (by rw [HRR.out, HR.out])), HB.out⟩
      · have tz : (((n - j - 1 : Nat) : Int) == 0) = false := by rw [beq_eq_false_iff_ne]; omega
        have hj1 : j + 1 < n := by omega
        clear o3 hwp hfin
        rcases hb3 with ⟨h1, rfl⟩ | ⟨h1, h2, rfl⟩ | ⟨h1, h2, rfl⟩
        all_goals
          go_wp2_with fail
          refine ⟨⟨j + 1, by omega, hj1, by rw [HN1.out], by rw [HO1.out]; go_num, HB⟩, by simp [RowKit.intOf]; omega⟩
    · obtain rfl : j = tab.length := by omega
      have HR : Hid (tab.getD (n - 1) [] = []) := by show _ = _; rw [List.getD_eq_getElem?_getD, List.getElem?_eq_none (by omega)]; rfl
      have hE := HE.out
      have hjl : ¬ (offS tab tab.length : Int) < (p.size : Int) := by omega
      go_wp2_with fail
      go_ret
      exact ⟨str_ret (by rw [HRR.out, HR.out]), HB.out⟩
theorem dec_step (u : Nat) : decDigits u = (if u / 10 = 0 then [] else decDigits (u / 10)) ++ [UInt8.ofNat (48 + u % 10)] := by
  rw [decDigits]
  by_cases h : u < 10
  · rw [dif_pos h, if_pos (by omega), Nat.mod_eq_of_lt h]; rfl
  · rw [dif_neg h, if_neg (by omega)]
theorem dig_cut (k : Nat) (hk : k < 10) : ((⟨#[48, 49, 50, 51, 52, 53, 54, 55, 56, 57]⟩ : ByteArray).extract k (k + 1)).data.toList = [UInt8.ofNat (48 + k)] := by
  have : ∀ i : Fin 10, ((⟨#[48, 49, 50, 51, 52, 53, 54, 55, 56, 57]⟩ : ByteArray).extract i.val (i.val + 1)).data.toList = [UInt8.ofNat (48 + i.val)] := by decide +kernel
  exact this ⟨k, hk⟩
/-- What has been told of a number's digits, and what is left of it. -/
def Dg (n m : Nat) (T : List UInt8) : Prop := m ≤ n ∧ (if m = 0 then T = decDigits n else decDigits n = decDigits m ++ T)
theorem Dg.zero {n : Nat} (h : n ≠ 0) : Dg n n [] := ⟨Nat.le_refl _, by rw [if_neg h, List.append_nil]⟩
theorem Dg.next {n m : Nat} {T : List UInt8} (h : Dg n m T) (hm : m ≠ 0) : Dg n (m / 10) (UInt8.ofNat (48 + m % 10) :: T) := by
  obtain ⟨h1, h2⟩ := h
  rw [if_neg hm] at h2
  refine ⟨by omega, ?_⟩
  rw [h2, dec_step m]
  by_cases h0 : m / 10 = 0
  · rw [if_pos h0, if_pos h0]; rfl
  · rw [if_neg h0, if_neg h0, List.append_assoc]; rfl
theorem Dg.len {n m : Nat} {T : List UInt8} (h : Dg n m T) (hn : n < 18446744073709551616) : T.length ≤ 20 := by
  have hl : (decDigits n).length ≤ 20 := by rw [decDigits_length]; exact nDigits_le20 n hn
  obtain ⟨h1, h2⟩ := h
  split at h2
  · rw [h2]; exact hl
  · rw [h2, List.length_append] at hl; omega
theorem cat_dig (k : Nat) (hk : k < 10) (T : ByteArray) : ((⟨#[48, 49, 50, 51, 52, 53, 54, 55, 56, 57]⟩ : ByteArray).extract k (k + 1) ++ T).data.toList = UInt8.ofNat (48 + k) :: T.data.toList := by
  rw [ByteArray.data_append, Array.toList_append, dig_cut k hk]; rfl
theorem cut_size (k : Nat) (hk : k < 10) : ((⟨#[48, 49, 50, 51, 52, 53, 54, 55, 56, 57]⟩ : ByteArray).extract k (k + 1)).size = 1 := by
  rw [size_eq, dig_cut k hk]; rfl
set_option maxRecDepth 100000 in
set_option maxHeartbeats 4000000 in
theorem rdigits_any (n : Int) (hn : InR n) (w : World) :
    Calls Tryz.prog 79 #[.int .i64 n] w fun e w' => e = .returned (.string ⟨(digS n).toArray⟩) ∧ Below w.heap.size w w' := by
  obtain ⟨hn1, hn2⟩ := hn
  by_cases h0 : n = 0
  · have HS : Hid ((⟨(digS n).toArray⟩ : ByteArray) = ⟨#[48]⟩) := by
      show _ = _
      rw [h0]; unfold digS; rw [if_neg (by decide)]
      show (⟨(decDigits 0).toArray⟩ : ByteArray) = _
      rw [decDigits_one (by decide)]; rfl
    have e0 : (n == 0) = true := by rw [beq_iff_eq]; exact h0
    clear h0
    go_enter Tryz.func79, Tryz.ntmps79
    go_wp2_with fail
    go_ret
    exact ⟨str_ret HS.out.symm, Below.refl _ _⟩
  · have e0 : (n == 0) = false := beq_eq_false_iff_ne.2 h0
    have HZ : Hid (n.natAbs < 18446744073709551616) := by show _ < _; omega
    have HD0 : Hid (Dg n.natAbs n.natAbs (⟨#[]⟩ : ByteArray).data.toList) := Dg.zero (by omega)
    have HF : Hid (∀ T : ByteArray, T.data.toList = decDigits n.natAbs → (if n < 0 then (⟨#[194, 175]⟩ : ByteArray) ++ T else T) = ⟨(digS n).toArray⟩) := fun T h => by
      unfold digS
      by_cases hneg : n < 0
      · rw [if_pos hneg, if_pos hneg]
        apply ByteArray.ext
        apply Array.toList_inj.1
        rw [ByteArray.data_append, Array.toList_append, h]; rfl
      · rw [if_neg hneg, if_neg hneg, ← h]
    clear h0
    go_enter Tryz.func79, Tryz.ntmps79
    go_wp2_with fail
    go_loopw [3, 4] (fun t v wr => ∃ (T : ByteArray) (m : Int), t = .string T ∧ v = .int .i64 m ∧ m.natAbs ≤ 9223372036854775808 ∧ (n < 0 → m ≤ 0) ∧ (0 ≤ n → 0 ≤ m) ∧ Hid (Dg n.natAbs m.natAbs T.data.toList) ∧ w = wr) (fun _ v _ => (RowKit.intOf v).natAbs)
    case atStart => exact ⟨⟨#[]⟩, n, rfl, rfl, by omega, fun h => by omega, fun h => h, HD0, rfl⟩
    case round =>
      obtain ⟨T, m, rfl, rfl, hm, hm1, hm2, HD, rfl⟩ := hrel
      have HL : Hid (T.size ≤ 20) := by show _ ≤ _; rw [size_eq]; exact HD.out.len HZ.out
      have hL := HL.out
      by_cases hz : m = 0
      · have HT : Hid (T.data.toList = decDigits n.natAbs) := by
          have h := HD.out.2
          rw [if_pos (by omega)] at h
          exact h
        have ez : (m != 0) = false := by simp [hz]
        have HR := HF.out T HT.out
        clear hz
        by_cases hneg : n < 0
        · rw [if_pos hneg] at HR
          have HRR : Hid ((⟨#[194, 175]⟩ : ByteArray) ++ T = ⟨(digS n).toArray⟩) := HR
          clear HR
          go_wp2_with fail
          go_ret
          exact ⟨str_ret HRR.out, Below.refl _ _⟩
        · rw [if_neg hneg] at HR
          have HRR : Hid (T = ⟨(digS n).toArray⟩) := HR
          clear HR
          go_wp2_with fail
          go_ret
          exact ⟨str_ret HRR.out, Below.refl _ _⟩
      · have ez : (m != 0) = true := by simpa using hz
        obtain ⟨u, hu⟩ : ∃ u : Nat, u = m.natAbs := ⟨_, rfl⟩
        rw [← hu] at HD hm
        have hu0 : u ≠ 0 := by omega
        have hk : u % 10 < 10 := Nat.mod_lt _ (by omega)
        have hcz := cut_size (u % 10) hk
        have HN : Hid (Dg n.natAbs (u / 10) ((⟨#[48, 49, 50, 51, 52, 53, 54, 55, 56, 57]⟩ : ByteArray).extract (u % 10) (u % 10 + 1) ++ T).data.toList) := by
          show Dg _ _ _
          rw [cat_dig _ hk]; exact HD.out.next hu0
        by_cases hneg : m < 0
        · obtain rfl : m = -(u : Int) := by omega
          have t1 : (-(u : Int)).tmod 10 = -((u % 10 : Nat) : Int) := by rw [Int.neg_tmod, Int.tmod_eq_emod_of_nonneg (by omega)]; omega
          have t2 : (-(u : Int)).tdiv 10 = -((u / 10 : Nat) : Int) := by rw [Int.neg_tdiv, Int.tdiv_eq_ediv_of_nonneg (by omega)]; omega
          have HN2 : Hid (Dg n.natAbs (-((u / 10 : Nat) : Int)).natAbs ((⟨#[48, 49, 50, 51, 52, 53, 54, 55, 56, 57]⟩ : ByteArray).extract (u % 10) (u % 10 + 1) ++ T).data.toList) := by
            show Dg _ _ _
            rw [show (-((u / 10 : Nat) : Int)).natAbs = u / 10 by omega]; exact HN.out
          have hq1 : u / 10 ≤ 9223372036854775808 := by omega
          have hlt : u / 10 < u := by omega
          have hmm : n < 0 → -((u / 10 : Nat) : Int) ≤ 0 := fun h => by omega
          have hmn : 0 ≤ n → 0 ≤ -((u / 10 : Nat) : Int) := fun h => by have := hm2 h; omega
          clear hu HN hz hm1 hm2
          generalize u % 10 = d at *
          generalize u / 10 = q at *
          by_cases hd : d = 0
          · have hd1 : ¬ -(d : Int) < 0 := by omega
            have hdd : -(d : Int) = (d : Int) := by omega
            clear hd
            go_wp2_with fail
            exact ⟨⟨_, -(q : Int), rfl, rfl, by omega, hmm, hmn, HN2, trivial⟩, by simp [RowKit.intOf]; omega⟩
          · have hd1 : -(d : Int) < 0 := by omega
            clear hd
            go_wp2_with fail
            exact ⟨⟨_, -(q : Int), rfl, rfl, by omega, hmm, hmn, HN2, trivial⟩, by simp [RowKit.intOf]; omega⟩
        · obtain rfl : m = (u : Int) := by omega
          have t1 : ((u : Int)).tmod 10 = ((u % 10 : Nat) : Int) := by rw [Int.tmod_eq_emod_of_nonneg (by omega)]; omega
          have t2 : ((u : Int)).tdiv 10 = ((u / 10 : Nat) : Int) := by rw [Int.tdiv_eq_ediv_of_nonneg (by omega)]; omega
          have HN2 : Hid (Dg n.natAbs ((u / 10 : Nat) : Int).natAbs ((⟨#[48, 49, 50, 51, 52, 53, 54, 55, 56, 57]⟩ : ByteArray).extract (u % 10) (u % 10 + 1) ++ T).data.toList) := by
            show Dg _ _ _
            rw [show ((u / 10 : Nat) : Int).natAbs = u / 10 by omega]; exact HN.out
          have hq1 : u / 10 ≤ 9223372036854775808 := by omega
          have hlt : u / 10 < u := by omega
          have hmm : n < 0 → ((u / 10 : Nat) : Int) ≤ 0 := fun h => by have := hm1 h; omega
          have hmn : 0 ≤ n → 0 ≤ ((u / 10 : Nat) : Int) := fun h => by omega
          have hub : u ≤ 9223372036854775807 := by
            rcases Int.lt_or_le n 0 with h | h
            · have := hm1 h; omega
            · have := HD.out.1; omega
          clear hu HN hz hm1 hm2
          generalize u % 10 = d at *
          generalize u / 10 = q at *
          have hd1 : ¬ (d : Int) < 0 := by omega
          go_wp2_with fail
          exact ⟨⟨_, (q : Int), rfl, rfl, by omega, hmm, hmn, HN2, trivial⟩, by simp [RowKit.intOf]; omega⟩
theorem nm_at {s : ByteArray} (h0 : 0 < s.size) (hl : ltI (bt s 0) = true) (h : ∀ j, j < s.size → ptI (bt s j) = true) : namF (tl s 0) = if 12 < s.size then 7 else 0 := by
  have hall : (tl s 0).all isPt = true := by
    rw [tl_zero, List.all_eq_true]
    intro b hb
    obtain ⟨j, hj, rfl⟩ := List.getElem_of_mem hb
    have hj2 : j < s.size := by rw [size_eq]; exact hj
    have := h j hj2
    rw [← ptI_is]
    have e : ((s.data.toList[j]).toNat : Int) = (bt s j : Int) := by unfold bt; rw [List.getD_eq_getElem?_getD, List.getElem?_eq_getElem hj]; rfl
    rw [e]; exact this
  have hlen := tl_len s 0
  rw [Nat.sub_zero] at hlen
  have hc := tl_cons h0
  have hb : ((s.data.toList.getD 0 0).toNat : Int) = (bt s 0 : Int) := rfl
  rw [← hb, ltI_is] at hl
  rw [hc] at hall hlen ⊢
  unfold namF
  simp only
  rw [if_pos ⟨hl, hall⟩, hlen]
theorem nm_no {s : ByteArray} {j : Nat} (hj : j < s.size) (h : ptI (bt s j) = false) : namF (tl s 0) = 1 := by
  have hall : (tl s 0).all isPt = false := by
    rw [tl_zero, List.all_eq_false]
    have hj2 : j < s.data.toList.length := by rw [← size_eq]; exact hj
    refine ⟨s.data.toList[j], List.getElem_mem hj2, ?_⟩
    have e : ((s.data.toList[j]).toNat : Int) = (bt s j : Int) := by unfold bt; rw [List.getD_eq_getElem?_getD, List.getElem?_eq_getElem hj2]; rfl
    rw [← ptI_is, e, h]; exact Bool.false_ne_true
  cases hx : tl s 0 with
  | nil => rfl
  | cons b r =>
    rw [hx] at hall
    unfold namF
    simp only
    rw [if_neg (fun g => by rw [hall] at g; exact Bool.false_ne_true g.2)]
theorem nm_let {s : ByteArray} (h0 : 0 < s.size) (hl : ltI (bt s 0) = false) : namF (tl s 0) = 1 := by
  have hb : ((s.data.toList.getD 0 0).toNat : Int) = (bt s 0 : Int) := rfl
  rw [← hb, ltI_is] at hl
  rw [tl_cons h0]
  unfold namF
  simp only
  rw [if_neg (fun g => by rw [hl] at g; exact Bool.false_ne_true g.1)]
set_option maxRecDepth 100000 in
set_option maxHeartbeats 4000000 in
theorem rname_any (s : ByteArray) (hs : s.size ≤ 9223372036854775807) (w : World) :
    Calls Tryz.prog 80 #[.string s] w fun e w' => e = .returned (.int .i64 (namF (tl s 0))) ∧ w' = w := by
  by_cases h0 : 0 < s.size
  · have hix0 := index_at s 0 0 rfl h0
    have e0 : ((s.size : Int) == 0) = false := by rw [beq_eq_false_iff_ne]; omega
    cases hl : ltI (bt s 0)
    · have HE : Hid (namF (tl s 0) = 1) := nm_let h0 hl
      have HL : Hid (ltI (bt s 0) = false) := hl
      clear hl
      go_enter Tryz.func80, Tryz.ntmps80
      go_wp2_with fail
      refine (rlet_any _ _).mono ?_
      rintro e w' ⟨rfl, hw'⟩
      obtain rfl := hw'.symm
      rw [HL.out]
      go_wp2_with fail
      go_ret
      exact ⟨ret1 HE.out.symm, rfl⟩
    · have HL : Hid (ltI (bt s 0) = true) := hl
      have HA : Hid ((∀ j, j < s.size → ptI (bt s j) = true) → namF (tl s 0) = if 12 < s.size then 7 else 0) := nm_at h0 hl
      clear hl
      go_enter Tryz.func80, Tryz.ntmps80
      go_wp2_with fail
      refine (rlet_any _ _).mono ?_
      rintro e w' ⟨rfl, hw'⟩
      obtain rfl := hw'.symm
      rw [HL.out]
      go_wp2_with fail
      clear hix0
      go_loopw [3] (fun v wr => ∃ k : Nat, k ≤ s.size ∧ v = .int .i64 k ∧ Hid (∀ j, j < k → ptI (bt s j) = true) ∧ w = wr) (fun v _ => s.size - (RowKit.intOf v).toNat)
      case atStart => exact ⟨0, Nat.zero_le _, rfl, (fun j hj => by omega : ∀ j, j < 0 → ptI (bt s j) = true), rfl⟩
      case round =>
        obtain ⟨k, hk, rfl, HS, rfl⟩ := hrel
        by_cases hlt : k < s.size
        · have hix := index_at s k (k : Int) rfl hlt
          have hlt' : (k : Int) < (s.size : Int) := by omega
          cases hp : ptI (bt s k)
          · have HE : Hid (namF (tl s 0) = 1) := nm_no hlt hp
            have HP : Hid (ptI (bt s k) = false) := hp
            clear hp
            go_wp2_with fail
            refine (rpart_any _ _).mono ?_
            rintro e w' ⟨rfl, hw'⟩
            obtain rfl := hw'.symm
            rw [HP.out]
            go_wp2_with fail
            go_ret
            exact ⟨ret1 HE.out.symm, rfl⟩
          · have HN : Hid (∀ j, j < k + 1 → ptI (bt s j) = true) := fun j hj => by
              rcases Nat.lt_succ_iff_lt_or_eq.1 hj with h1 | rfl
              · exact HS.out j h1
              · exact hp
            have HP : Hid (ptI (bt s k) = true) := hp
            clear hp
            go_wp2_with fail
            refine (rpart_any _ _).mono ?_
            rintro e w' ⟨rfl, hw'⟩
            obtain rfl := hw'.symm
            rw [HP.out]
            go_wp2_with fail
            refine ⟨⟨k + 1, hlt, by first | rfl | go_num, HN, by first | rfl | trivial⟩, by simp [RowKit.intOf]; omega⟩
        · obtain rfl : k = s.size := by omega
          have hE := HA.out HS.out
          by_cases h12 : 12 < s.size
          · rw [if_pos h12] at hE
            have HE : Hid (namF (tl s 0) = 7) := hE
            have h13 : (12 : Int) < (s.size : Int) := by omega
            clear hE
            go_wp2_with fail
            go_ret
            exact ⟨ret1 HE.out.symm, rfl⟩
          · rw [if_neg h12] at hE
            have HE : Hid (namF (tl s 0) = 0) := hE
            have h13 : ¬ (12 : Int) < (s.size : Int) := by omega
            clear hE
            go_wp2_with fail
            go_ret
            exact ⟨ret1 HE.out.symm, rfl⟩
  · have HE : Hid (namF (tl s 0) = 1) := by show _ = _; rw [tl_end h0]; rfl
    have e0 : ((s.size : Int) == 0) = true := by rw [beq_iff_eq]; omega
    clear h0
    go_enter Tryz.func80, Tryz.ntmps80
    go_wp2_with fail
    go_ret
    exact ⟨ret1 HE.out.symm, rfl⟩
end Go.Proofs.YtgjgbgllhbdodaaGreatDoor
