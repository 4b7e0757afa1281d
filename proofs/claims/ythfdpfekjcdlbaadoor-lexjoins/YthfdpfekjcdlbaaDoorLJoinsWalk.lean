/-
  The walk of the statement on a line behind a line.
-/
import Derived.BigQuiet
import Derived.Test.YthfdpfekjcdlbaaDoorLyk
import Derived.Test.YthfdpfekjcdlbaaDoorLyv
namespace Go.Proofs.YthfdpfekjcdlbaaDoor
open Go.RowKit Go.Lib Classical
set_option linter.unusedVariables false

theorem fact_joins : lineS [49, 50, 32, 97, 98] = .ok [(⟨1, 0, 12, []⟩, 0), (⟨3, 0, 0, [97, 98]⟩, 3)] := by rfl
theorem tok_raw (k f n : Int) (t : List UInt8) (a : Int) (w : World) : (binOp .neq 29 (.agg #[.int .i64 k, .int .i64 f, .int .i64 n, .string ⟨t.toArray⟩, .int .i64 a]) (.agg #[.int .i64 k, .int .i64 f, .int .i64 n, .string ⟨t.toArray⟩, .int .i64 a])).run Tryd.prog w = .ok (.bool false) w :=
  tok_same (x := (⟨k, f, n, t⟩, a)) (y := (⟨k, f, n, t⟩, a)) rfl w
theorem line_thousand {l : List UInt8} {ws : List (Tk × Nat)} (h : lineS l = .ok ws) : l.length ≤ 1000 := by
  unfold lineS at h
  split at h
  · cases h
  · omega
theorem cat_line (s t : ByteArray) : tl (s ++ (⟨#[32]⟩ : ByteArray) ++ t) 0 = tl s 0 ++ 32 :: tl t 0 := by
  rw [tl_zero, tl_zero, tl_zero, ByteArray.data_append, ByteArray.data_append]; simp
theorem cat_size (s t : ByteArray) : (s ++ (⟨#[32]⟩ : ByteArray)).size = s.size + 1 := by rw [ByteArray.size_append]; rfl
theorem join_left {xs ys : List (Tk × Nat)} {d k : Nat} (hk : k < xs.length) : tkz (rdA (xs ++ shf d ys)) k = tkz (rdA xs) k := by
  rw [rdA_at hk, rdA_at (by rw [List.length_append]; omega), List.getElem_append_left hk]
theorem join_right {xs ys : List (Tk × Nat)} {d k : Nat} (hk : k < ys.length) : tkz (rdA (xs ++ shf d ys)) (xs.length + k) = ((tkz (rdA ys) k).1, (tkz (rdA ys) k).2 + (d : Int)) := by
  rw [rdA_at hk, rdA_at (by rw [List.length_append]; unfold shf; rw [List.length_map]; omega)]
  rw [List.getElem_append_right (by omega)]
  unfold shf
  rw [List.getElem_map]
  simp
def JoinsOk (w : World) (e : Ending) (w' : World) : Prop := e = .returned (.bool true) ∧ Below w.heap.size w w'
set_option maxRecDepth 100000 in
set_option maxHeartbeats 2000000 in
theorem joins_walk (s t : ByteArray) (hs : s.size ≤ 9223372036854775807) (ht : t.size ≤ 9223372036854775807) (w : World) (hT : Lib.Utf8Tabs (Tryd.laysValid_ren.g 3) (Tryd.laysValid_ren.g 4) w) (hr : HasRng w) :
    Calls Tryd.prog 5 #[.string s, .string t] w fun e w' => e = .returned (.bool true) ∧ Below w.heap.size w w' := by
  have hc1 := line_any17 ⟨#[49, 50, 32, 97, 98]⟩ (by decide) w hT hr
  rw [show lineS (tl (⟨#[49, 50, 32, 97, 98]⟩ : ByteArray) 0) = _ from fact_joins] at hc1
  have HT : Hid (Lib.Utf8Tabs (Tryd.laysValid_ren.g 3) (Tryd.laysValid_ren.g 4) w) := hT
  have HR : Hid (HasRng w) := hr
  clear hT hr
  go_enter Tryd.func5, Tryd.ntmps5
  go_wp2_with fail
  refine hc1.mono ?_
  rintro e w1 ⟨hB1, fa, fc, rfl, hF⟩
  obtain ⟨fg, fo, rfl, _, hfc⟩ := hF.at (j := 1) (by decide)
  have hf4 := (hfc 1 (by decide)).2.2.2.2
  have hf2 := (hfc 0 (by decide)).2.2.1
  have ht4 : (tkz (rdA [(⟨1, 0, 12, []⟩, 0), (⟨3, 0, 0, [97, 98]⟩, 3)]) 1).2 = 3 := rfl
  have ht2 : (tkz (rdA [(⟨1, 0, 12, []⟩, 0), (⟨3, 0, 0, [97, 98]⟩, 3)]) 0).1.num = 12 := rfl
  rw [ht4] at hf4
  rw [ht2] at hf2
  have B1 : Hid (Below w.heap.size w w1) := hB1
  clear hB1 hc1 hF hfc ht4 ht2
  simp only [List.length_cons, List.length_nil, Nat.zero_add, Nat.reduceAdd]
  go_wp2_with fail
  clear hf4 hf2
  go_loopw [8] (fun v wr => ∃ k : Nat, k ≤ s.size ∧ v = .int .i64 k ∧ Hid (∀ j, j < k → remB.isPrefixOf (tl s j) = false) ∧ Hid (Below w.heap.size w wr)) (fun v _ => s.size - (RowKit.intOf v).toNat)
  case atStart => exact ⟨0, Nat.zero_le _, rfl, (fun j hj => by omega : ∀ j, j < 0 → remB.isPrefixOf (tl s j) = false), B1⟩
  case round =>
    obtain ⟨k, hk, rfl, HN, HB⟩ := hrel
    by_cases hlt : k < s.size
    · have hcb := begins_any s ⟨#[226, 141, 157]⟩ k (by omega) hs (by decide) wr
      rw [tl_zero] at hcb
      have hlt' : (k : Int) < (s.size : Int) := by omega
      cases hpre : remB.isPrefixOf (tl s k)
      · rw [show (⟨#[226, 141, 157]⟩ : ByteArray).data.toList.isPrefixOf (tl s k) = false from hpre] at hcb
        have HN2 : Hid (∀ j, j < k + 1 → remB.isPrefixOf (tl s j) = false) := fun j hj => by
          rcases Nat.lt_succ_iff_lt_or_eq.1 hj with h1 | rfl
          · exact HN.out j h1
          · exact hpre
        clear hpre
        go_wp2_with fail
        refine hcb.mono ?_
        rintro e w2 ⟨rfl, hB2⟩
        have HB2 : Hid (Below w.heap.size w w2) := HB.out.trans (hB2.mono HB.out.size)
        clear hB2 hcb
        go_wp2_with fail
        refine ⟨⟨k + 1, hlt, by first | rfl | go_num, HN2, HB2⟩, by simp [RowKit.intOf]; omega⟩
      · rw [show (⟨#[226, 141, 157]⟩ : ByteArray).data.toList.isPrefixOf (tl s k) = true from hpre] at hcb
        clear hpre
        go_wp2_with fail
        refine hcb.mono ?_
        rintro e w2 ⟨rfl, hB2⟩
        have HB2 : Hid (Below w.heap.size w w2) := HB.out.trans (hB2.mono HB.out.size)
        clear hB2 hcb
        go_wp2_with fail
        go_ret
        exact ⟨rfl, HB2.out⟩
    · obtain rfl : k = s.size := by omega
      have HRem : Hid (∀ k, remB.isPrefixOf ((tl s 0).drop k) = false) := fun k => by
        rw [tl_drop, Nat.zero_add]
        rcases Nat.lt_or_ge k s.size with h | h
        · exact HN.out k h
        · rw [tl_end (by omega)]; rfl
      have hcx := line_any17 s hs wr (tabs_go HT.out HB.out) (HR.out.go HB.out)
      clear HN
      go_wp2_with fail
      refine hcx.mono ?_
      cases hX : lineS (tl s 0) with
      | error x =>
        obtain ⟨i, c⟩ := x
        rintro e w2 ⟨hB2, rfl⟩
        have HB2 : Hid (Below w.heap.size w w2) := HB.out.trans (hB2.mono HB.out.size)
        rw [errV_pos (line_err hX)]
        have hcy := line_any17 t ht w2 (tabs_go HT.out HB2.out) (HR.out.go HB2.out)
        clear hB2 hcx hX
        go_wp2_with fail
        refine hcy.mono ?_
        cases hY : lineS (tl t 0) with
        | error y =>
          obtain ⟨i, c⟩ := y
          rintro e w3 ⟨hB3, rfl⟩
          have HB3 : Hid (Below w.heap.size w w3) := HB2.out.trans (hB3.mono HB2.out.size)
          clear hB3 hcy hY
          go_wp2_with fail
          go_ret
          exact ⟨rfl, HB3.out⟩
        | ok ys =>
          rintro e w3 ⟨hB3, b, bcap, rfl, _⟩
          have HB3 : Hid (Below w.heap.size w w3) := HB2.out.trans (hB3.mono HB2.out.size)
          clear hB3 hcy hY
          go_wp2_with fail
          go_ret
          exact ⟨rfl, HB3.out⟩
      | ok xs =>
        rintro e w2 ⟨hB2, a, cap, rfl, hI⟩
        have HB2 : Hid (Below w.heap.size w w2) := HB.out.trans (hB2.mono HB.out.size)
        have HI2 : Hid (IsTk w2.heap.size w2 a (rdA xs)) := hI
        have hs1 := line_thousand hX
        rw [tl_len, Nat.sub_zero] at hs1
        have hxl : xs.length ≤ 200 := (again17 hX).2.1
        have HX : Hid (lineS (tl s 0) = .ok xs) := hX
        have hcy := line_any17 t ht w2 (tabs_go HT.out HB2.out) (HR.out.go HB2.out)
        clear hB2 hcx hX hI
        go_wp2_with fail
        refine hcy.mono ?_
        cases hY : lineS (tl t 0) with
        | error y =>
          obtain ⟨i, c⟩ := y
          rintro e w3 ⟨hB3, rfl⟩
          have HB3 : Hid (Below w.heap.size w w3) := HB2.out.trans (hB3.mono HB2.out.size)
          rw [errV_pos (line_err hY)]
          clear hB3 hcy hY
          go_wp2_with fail
          go_ret
          exact ⟨rfl, HB3.out⟩
        | ok ys =>
          rintro e w3 ⟨hB3, b, bcap, rfl, hJ⟩
          have HB3 : Hid (Below w.heap.size w w3) := HB2.out.trans (hB3.mono HB2.out.size)
          have HI3 : Hid (IsTk w3.heap.size w3 a (rdA xs)) := (HI2.out.go hB3).mono hB3.size
          have HJ3 : Hid (IsTk w3.heap.size w3 b (rdA ys)) := hJ
          have ht1 := line_thousand hY
          rw [tl_len, Nat.sub_zero] at ht1
          obtain ⟨_, hyl, hyp, _⟩ := again17 hY
          have HY : Hid (lineS (tl t 0) = .ok ys) := hY
          have HYP : Hid (∀ v ∈ ys, v.2 < (tl t 0).length ∧ ((tl t 0).getD v.2 0).toNat ≠ 32 ∧ InR v.1.num) := hyp
          clear hB3 hcy hY hJ hyp
          by_cases hbig : 1000 < s.size + t.size + 1
          · have hbi : (1000 : Int) < (s.size : Int) + (t.size : Int) + 1 := by omega
            go_wp2_with fail
            go_ret
            exact ⟨rfl, HB3.out⟩
          · have hbi : ¬ (1000 : Int) < (s.size : Int) + (t.size : Int) + 1 := by omega
            by_cases hmany : 200 < xs.length + ys.length
            · have hmi : (200 : Int) < (xs.length : Int) + (ys.length : Int) := by omega
              go_wp2_with fail
              go_ret
              exact ⟨rfl, HB3.out⟩
            · have hmi : ¬ (200 : Int) < (xs.length : Int) + (ys.length : Int) := by omega
              have hjn := join17 HRem.out HX.out HY.out (by rw [tl_len, tl_len]; omega) (by omega)
              rw [tl_len, Nat.sub_zero] at hjn
              have hsz1 := cat_size s t
              have hcz := line_any17 (s ++ (⟨#[32]⟩ : ByteArray) ++ t) (by rw [ByteArray.size_append, hsz1]; omega) w3 (tabs_go HT.out HB3.out) (HR.out.go HB3.out)
              rw [cat_line, hjn] at hcz
              have HZL : Hid ((xs ++ shf (s.size + 1) ys).length = xs.length + ys.length) := by show _ = _; rw [List.length_append]; unfold shf; rw [List.length_map]
              go_wp2_with fail
              refine hcz.mono ?_
              rintro e w4 ⟨hB4, c, ccap, rfl, hK⟩
              rw [HZL.out]
              have HB4 : Hid (Below w.heap.size w w4) := HB3.out.trans (hB4.mono HB3.out.size)
              have HI4 : Hid (IsTk w4.heap.size w4 a (rdA xs)) := (HI3.out.go hB4).mono hB4.size
              have HJ4 : Hid (IsTk w4.heap.size w4 b (rdA ys)) := (HJ3.out.go hB4).mono hB4.size
              have HK4 : Hid (IsTk w4.heap.size w4 c (rdA (xs ++ shf (s.size + 1) ys))) := hK
              clear hB4 hcz hK hjn
              have heq : ((xs.length + ys.length : Nat) : Int) = (xs.length : Int) + (ys.length : Int) := by omega
              go_wp2_with fail
              go_loopw [18] (fun v wr => ∃ k : Nat, k ≤ xs.length ∧ v = .int .i64 k ∧ ∃ m, wr = w4.drewN m) (fun v _ => xs.length - (RowKit.intOf v).toNat)
              case atStart => exact ⟨0, Nat.zero_le _, rfl, 0, rfl⟩
              case round =>
                obtain ⟨k, hk, rfl, m, rfl⟩ := hrel
                by_cases hlt : k < xs.length
                · obtain ⟨gz, oz, rfl, hgz, hcz⟩ := HK4.out.at (j := k) (by rw [rdA_length, HZL.out]; omega)
                  obtain ⟨gx, ox, rfl, hgx, hcx⟩ := HI4.out.at (j := k) (by rw [rdA_length]; exact hlt)
                  obtain ⟨c0, c1, c2, c3, c4⟩ := hcz k (by rw [rdA_length, HZL.out]; omega)
                  obtain ⟨d0, d1, d2, d3, d4⟩ := hcx k (by rw [rdA_length]; exact hlt)
                  rw [join_left hlt] at c0 c1 c2 c3 c4
                  generalize hx : tkz (rdA xs) k = x at *
                  obtain ⟨⟨tk, tf, tn, tt⟩, ta⟩ := x
                  simp only [TkA.s] at c0 c1 c2 c3 c4 d0 d1 d2 d3 d4
                  have hne := tok_raw tk tf tn tt ta
                  have hlz : k < xs.length + ys.length := by omega
                  clear hcz hcx hx
                  go_wp2_with fail
                  go_quiet (fail)
                  go_wp2
                  go_roundw
                  case rel => exact ⟨k + 1, hlt, by go_num, _, rfl⟩
                  case measure => simp [RowKit.intOf]; omega
                · obtain rfl : k = xs.length := by omega
                  obtain ⟨w5, hw5⟩ : ∃ w5, w5 = w4.drewN m := ⟨_, rfl⟩
                  have hB5 : Below w4.heap.size w4 w5 := by rw [hw5]; exact bel_drewN (Below.refl _ _) _
                  have HJ5 : Hid (IsTk w5.heap.size w5 b (rdA ys)) := (HJ4.out.go hB5).mono hB5.size
                  have HK5 : Hid (IsTk w5.heap.size w5 c (rdA (xs ++ shf (s.size + 1) ys))) := (HK4.out.go hB5).mono hB5.size
                  have HB5 : Hid (Below w.heap.size w w5) := HB4.out.trans (hB5.mono HB4.out.size)
                  have HW5 : Hid (w5 = w4.drewN m) := hw5
                  clear hB5 hw5
                  go_wp2_with fail
                  rw [← HW5.out]
                  go_loopw [19] (fun v wr => ∃ k : Nat, k ≤ ys.length ∧ v = .int .i64 k ∧ Hid (Below w5.heap.size w5 wr)) (fun v _ => ys.length - (RowKit.intOf v).toNat)
                  case atStart => exact ⟨0, Nat.zero_le _, rfl, Below.refl _ _⟩
                  case round =>
                    obtain ⟨k, hk, rfl, HB6⟩ := hrel
                    by_cases hlt : k < ys.length
                    · obtain ⟨gz, oz, rfl, hgz, hcz⟩ := (HK5.out.go HB6.out).at (j := xs.length + k) (by rw [rdA_length, HZL.out]; omega)
                      obtain ⟨gy, oy, rfl, hgy, hcy⟩ := (HJ5.out.go HB6.out).at (j := k) (by rw [rdA_length]; exact hlt)
                      have hzc := hcz (xs.length + k) (by rw [rdA_length, HZL.out]; omega)
                      obtain ⟨d0, d1, d2, d3, d4⟩ := hcy k (by rw [rdA_length]; exact hlt)
                      rw [join_right hlt] at hzc
                      have hpos := (HYP.out ys[k] (List.getElem_mem hlt)).1
                      rw [tl_len] at hpos
                      have hta : (tkz (rdA ys) k).2 = (ys[k].2 : Int) := by rw [rdA_at hlt]
                      generalize hx : tkz (rdA ys) k = x at *
                      obtain ⟨⟨tk, tf, tn, tt⟩, ta⟩ := x
                      have hta0 : 0 ≤ ta ∧ ta ≤ 1000 := by simp only at hta; omega
                      obtain ⟨A, hA⟩ : ∃ A : Int, A = ta + ((s.size : Int) + 1) := ⟨_, rfl⟩
                      have hzc2 : TkC wr gz (oz + (xs.length + k) * 5) (⟨tk, tf, tn, tt⟩, A) := by
                        rw [hA]
                        have e : ((s.size + 1 : Nat) : Int) = (s.size : Int) + 1 := by omega
                        rw [e] at hzc; exact hzc
                      obtain ⟨W6, hW6⟩ : ∃ W6, W6 = wr.alloc (.cells #[.int .i64 tk, .int .i64 tf, .int .i64 tn, .string ⟨tt.toArray⟩, .int .i64 A] 29) := ⟨_, rfl⟩
                      have hB7 : Below wr.heap.size wr W6 := by rw [hW6]; exact (Below.refl _ wr).alloc (Nat.le_refl _) _
                      have HB7 : Hid (Below w5.heap.size w5 W6) := HB6.out.trans (hB7.mono HB6.out.size)
                      have HT6 : Hid (Tbx W6 wr.heap.size (.int .i64 tk) (.int .i64 tf) (.int .i64 tn) (.string ⟨tt.toArray⟩) (.int .i64 A)) := by show Tbx _ _ _ _ _ _ _; rw [hW6]; exact Tbx.new wr _ _ _ _ _
                      have HZ6 : Hid (TkC W6 gz (oz + (xs.length + k) * 5) (⟨tk, tf, tn, tt⟩, A)) := by
                        have hgz' : gz < wr.heap.size := by have := HB6.out.size; omega
                        obtain ⟨q0, q1, q2, q3, q4⟩ := hzc2
                        exact ⟨(hB7.cell (p := ⟨gz, _, none⟩) hgz').trans q0, (hB7.cell (p := ⟨gz, _, none⟩) hgz').trans q1, (hB7.cell (p := ⟨gz, _, none⟩) hgz').trans q2, (hB7.cell (p := ⟨gz, _, none⟩) hgz').trans q3, (hB7.cell (p := ⟨gz, _, none⟩) hgz').trans q4⟩
                      have HW6 : Hid (W6 = wr.alloc (.cells #[.int .i64 tk, .int .i64 tf, .int .i64 tn, .string ⟨tt.toArray⟩, .int .i64 A] 29)) := hW6
                      have hne := tok_raw tk tf tn tt A
                      have hkw : IntKind.i64.wrap ((xs.length : Int) + (k : Int)) = ((xs.length + k : Nat) : Int) := by rw [IntKind.wrap_i64]; omega
                      have hlz : xs.length + k < xs.length + ys.length := by omega
                      have hlk : (k : Int) < (ys.length : Int) := by omega
                      have hAe : ta + ((s.size : Int) + 1) = A := hA.symm
                      simp only [TkA.s] at d0 d1 d2 d3 d4
                      clear hcz hcy hx hzc hzc2 hta hB7 hW6 hpos hA
                      go_wp2_with fail
                      rw [← HW6.out]
                      obtain ⟨c0, c1, c2, c3, c4⟩ := HZ6.out
                      simp only [TkA.s] at c0 c1 c2 c3 c4
                      have b0 := HT6.out.c0
                      have b1 := HT6.out.c1
                      have b2 := HT6.out.c2
                      have b3 := HT6.out.c3
                      have b4 := HT6.out.c4
                      go_quiet (fail)
                      go_wp2
                      go_roundw
                      case rel => exact ⟨k + 1, hlt, by go_num, bel_drewN HB7.out _⟩
                      case measure => simp [RowKit.intOf]; omega
                    · obtain rfl : k = ys.length := by omega
                      have HBf : Hid (Below w.heap.size w wr) := HB5.out.trans (HB6.out.mono HB5.out.size)
                      go_wp2_with fail
                      go_ret
                      exact ⟨rfl, HBf.out⟩
end Go.Proofs.YthfdpfekjcdlbaaDoor
