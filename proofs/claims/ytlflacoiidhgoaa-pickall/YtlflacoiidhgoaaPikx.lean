/-
  The places as cells: plain mathematics of what the statements of package pick ask besides.
-/
import Derived.Test.YtlflacoiidhgoaaPtm
import Derived.Test.YtlflacoiidhgoaaIota
import Derived.Test.YtlflacoiidhgoaaCycd
namespace Go.Proofs.Ytlflacoiidhgoaa
open Go.RowKit
set_option linter.unusedVariables false

theorem cyc_self7 (zs : List Int) (d : Int) : cyc zs zs.length d = zs := nth_ext (cyc_length _ _ _) fun j hj => by
  rw [cyc_length] at hj
  rw [cyc_nth _ _ _ hj]
  unfold cyA
  rw [if_neg (by omega), Nat.mod_eq_of_lt hj]
theorem cyc_len7 {zs : List Int} {n : Nat} (d : Int) (h : n = zs.length) : cyc zs n d = zs := by rw [h]; exact cyc_self7 zs d
theorem iot_64 (n : Nat) (h : n ≤ 4096) : ∀ j, In64 (nth (iot n) j) := fun j => by
  by_cases hj : j < n
  · rw [iot_nth n hj]; unfold In64; omega
  · have : nth (iot n) j = 0 := by simp [nth, List.getElem?_eq_none (show (iot n).length ≤ j by rw [iot_length]; omega)]
    rw [this]; unfold In64; decide
section
variable {c cv : Bool} {s dz sv dv : List Int} {bys : List Ar}
theorem flat_flaw (h : flawE c s dz = 0) : flawE false s (iot dz.length) = 0 := flawE_okn (flawE_zero h).1 (by rw [iot_length]; exact (flawE_zero h).2.1)
theorem line_flaw {n : Nat} (h : n ≤ 4096) : flawE false [(n : Int)] (iot n) = 0 := by
  refine flawE_okn (errOf_zero.2 ⟨by simp, fun y hy => by rw [List.mem_singleton.1 hy]; omega, by simp only [prod, Int.mul_one]; omega⟩) ?_
  rw [iot_length]
  simp only [prod, Int.mul_one]
theorem flat_pk (h : pkE c s dz bys = 0) : pkE false s (iot dz.length) bys = 0 := by
  have f := (pkE_zero.1 h).1
  rw [pkE_data f (flat_flaw f)]
  exact h
theorem flat_nth (h : pkE c s dz bys = 0) {k : Nat} (hk : k < (prod (pkS bys)).toNat) : nth (pkD s (iot dz.length) bys) k = pkP s bys k := by
  have hb := pkP_bd h hk
  have hd := (flawE_zero (pkE_zero.1 h).1).2.1
  rw [pkD_nth hk, iot_nth _ (by omega)]
  omega
theorem pkD_length (s dz : List Int) (bys : List Ar) : (pkD s dz bys).length = (prod (pkS bys)).toNat := by unfold pkD; rw [TA_length]
/-- Has an array this cell? -/
def hasB (c : Bool) (dz : List Int) (ch : Bool) (v : Int) : Bool := decide (c = ch ∧ ∃ j, j < dz.length ∧ nth dz j = v)
theorem oth_or (h : ptE c s dz bys cv sv dv = 0) {i : Nat} (hi : i < dz.length) :
    (hasB false (pkD s (iot dz.length) bys) false (i : Int) = true ∧ hasB cv dv c (nth (ptV s dz bys sv dv) i) = true) ∨ (hasB false (pkD s (iot dz.length) bys) false (i : Int) = false ∧ nth (ptV s dz bys sv dv) i = nth dz i) := by
  obtain ⟨h1, h2, h3, h4⟩ := ptE_zero.1 h
  rcases ptV_or h hi with ⟨q1, q2⟩ | ⟨⟨k, hk, hP⟩, q2⟩
  · refine .inr ⟨decide_eq_false ?_, q1⟩
    rintro ⟨_, j, hj, e⟩
    rw [pkD_length] at hj
    rw [flat_nth h1 hj] at e
    exact q2 j hj e
  · refine .inl ⟨decide_eq_true ⟨rfl, k, by rw [pkD_length]; exact hk, by rw [flat_nth h1 hk]; exact hP⟩, decide_eq_true ⟨h3.symm, ?_⟩⟩
    obtain ⟨j, hj, e⟩ := List.mem_iff_getElem.1 q2
    exact ⟨j, hj, by rw [nth_get _ _ hj]; exact e⟩
/-- What is put, in the shape that is told. -/
theorem put_cyc (h : ptE c s dz bys cv sv dv = 0) (d : Int) : cyc dv (prod (pkS bys)).toNat d = putW (prod (pkS bys)).toNat sv dv := by
  refine nth_ext (by rw [cyc_length, putW_len h]) fun k hk => ?_
  rw [cyc_length] at hk
  obtain ⟨h0, h1⟩ := put7_at h hk
  rw [cyc_nth _ _ _ hk, ← h1]
  unfold cyA
  rw [if_neg (by omega)]
end
set_option maxRecDepth 100000 in
set_option maxHeartbeats 1000000 in
theorem has_any (c : Bool) (sa : Option Addr) (sc : Nat) (sz : List Int) (da : Option Addr) (dc : Nat) (dz : List Int) (ch : Bool) (v : Int) (h2 : dz.length ≤ 9223372036854775807) (w : World) (hd : IsInts w.heap.size w da dz) :
    Calls Try.prog 14 #[.agg #[.bool c, .slice sa sz.length sc, .slice da dz.length dc], .bool ch, .int .i64 v] w fun e w' => e = .returned (.bool (hasB c dz ch v)) ∧ Below w.heap.size w w' := by
  have HB0 : Hid (Below w.heap.size w (w.alloc (.cells #[.bool c, .slice sa sz.length sc, .slice da dz.length dc] 24))) := (Below.refl _ w).alloc (Nat.le_refl _) _
  have pa := Abx.new w (.bool c) (.slice sa sz.length sc) (.slice da dz.length dc)
  obtain ⟨v0, hv0⟩ : ∃ v0, v0 = w.alloc (.cells #[.bool c, .slice sa sz.length sc, .slice da dz.length dc] 24) := ⟨_, rfl⟩
  have HV0 : Hid (v0 = w.alloc (.cells #[.bool c, .slice sa sz.length sc, .slice da dz.length dc] 24)) := hv0
  have HI : Hid (IsInts w.heap.size v0 da dz ∧ Below w.heap.size w v0) := by rw [hv0]; exact ⟨hd.below HB0.out, HB0.out⟩
  rw [← hv0] at pa
  clear hd hv0 HB0
  have p0 := pa.c0
  have p2 := pa.c2
  go_enter Try.func14, Try.ntmps14
  go_wp2_with fail
  rw [← HV0.out]
  go_loopw [7] (fun i wr => ∃ k : Nat, k ≤ dz.length ∧ i = .int .i64 k ∧ Hid (∀ j, j < k → ¬ (c = ch ∧ nth dz j = v)) ∧ wr = v0) (fun i _ => dz.length - (intOf i).toNat)
  case atStart => exact ⟨0, Nat.zero_le _, rfl, fun j hj => absurd hj (Nat.not_lt_zero j), rfl⟩
  case round =>
    obtain ⟨k, hk, rfl, HA, hv⟩ := hrel
    obtain rfl := hv.symm
    clear hv
    by_cases hlt : k < dz.length
    · obtain ⟨b, off, rfl, hb, hc⟩ := HI.out.1.at hlt
      have ck := hc k hlt
      clear hc
      by_cases hcc : c = ch
      · have t1 : (c == ch) = true := by simp [hcc]
        by_cases he : nth dz k = v
        · have t2 : (nth dz k == v) = true := by simp [he]
          have HN : Hid (hasB c dz ch v = true) := decide_eq_true ⟨hcc, k, hlt, he⟩
          clear hcc he
          go_wp2_with fail
          go_ret
          exact ⟨ret_bool7 HN.out, HI.out.2⟩
        · have t2 : (nth dz k == v) = false := by simp [he]
          have HA2 : Hid (∀ j, j < k + 1 → ¬ (c = ch ∧ nth dz j = v)) := fun j hj => by
            by_cases e : j = k
            · subst e; exact fun q => he q.2
            · exact HA.out j (by omega)
          clear hcc he
          go_wp2_with fail
          exact ⟨⟨k + 1, by omega, by go_num, HA2, by first | rfl | trivial⟩, by simp [intOf]; omega⟩
      · have t1 : (c == ch) = false := by simp [hcc]
        have HA2 : Hid (∀ j, j < k + 1 → ¬ (c = ch ∧ nth dz j = v)) := fun j _ q => hcc q.1
        clear hcc
        go_wp2_with fail
        exact ⟨⟨k + 1, by omega, by go_num, HA2, by first | rfl | trivial⟩, by simp [intOf]; omega⟩
    · obtain rfl : k = dz.length := by omega
      have HN : Hid (hasB c dz ch v = false) := decide_eq_false fun ⟨h1, j, hj, e⟩ => HA.out j hj ⟨h1, e⟩
      go_wp2_with fail
      go_ret
      exact ⟨ret_bool7 HN.out, HI.out.2⟩
end Go.Proofs.Ytlflacoiidhgoaa
