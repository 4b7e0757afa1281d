/-
  The walk of the statement that a word that cannot stand is told as soon as can be.
-/
import Derived.Test.YtgjgbgllhbdodaaGreatDoorTrj
import Derived.Test.YtgjgbgllhbdodaaGreatDoorLzu
import Derived.Test.YtgjgbgllhbdodaaGreatDoorLyv
import Derived.Test.YtgjgbgllhbdodaaGreatDoorTqe
namespace Go.Proofs.YtgjgbgllhbdodaaGreatDoor
open Go.RowKit Go.Lib
set_option linter.unusedVariables false

theorem bad_ne18 : ∀ (ts : List Tk) (i : Nat) (j : Nat) (c : Int), badW ts i = some (j, c) → c ≠ 0
  | [], i, j, c, h => by cases h
  | t :: r, i, j, c, h => by
    simp only [badW] at h
    by_cases h0 : aloF t = 0
    · rw [if_pos h0] at h; exact bad_ne18 r (i + 1) j c h
    · rw [if_neg h0] at h
      have := Option.some.inj h
      rw [← (Prod.mk.inj this).2]; exact h0
theorem par_ne18 {ts : List Tk} {i : Nat} {c : Int} (h : parS ts = .error (i, c)) : c ≠ 0 := by
  unfold parS at h
  by_cases hl : 200 < ts.length
  · rw [if_pos hl] at h; cases h; decide
  · rw [if_neg hl] at h
    match e : badW ts 0 with
    | some (j, d) =>
      rw [e] at h
      cases h; exact bad_ne18 ts 0 _ _ e
    | none =>
      rw [e] at h
      simp only [] at h
      match e2 : lnP ts with
      | .error k => rw [e2] at h; cases h; decide
      | .ok ns => rw [e2] at h; cases h
theorem alo_56 : aloF ⟨6, 0, 0, []⟩ = 0 := by rfl
theorem fact_soon : parS [⟨1, 0, 5, []⟩, ⟨6, 0, 0, []⟩] = .error (1, 1) := by
  have ha : Alo [⟨1, 0, 5, []⟩, ⟨6, 0, 0, []⟩] := by
    intro t ht
    simp only [List.mem_cons, List.not_mem_nil, or_false] at ht
    rcases ht with rfl | rfl
    · exact alo_nu 5 (by unfold InR; decide)
    · exact alo_56
  rw [par_alo ha (by decide), show lnP [⟨1, 0, 5, []⟩, ⟨6, 0, 0, []⟩] = .error 1 by rfl]
def sN : TkA := (⟨1, 0, 5, []⟩, 0)
def sR : TkA := (⟨6, 0, 0, []⟩, 0)
theorem IsTk.take {n : Nat} {w : World} {a : Option Addr} {ts : List TkA} (h : IsTk n w a ts) (i : Nat) : IsTk n w a (ts.take i) := by
  rcases h with h | ⟨g, off, e, hg, hc⟩
  · rw [h]; exact .inl (by simp)
  · refine .inr ⟨g, off, e, hg, fun j hj => ?_⟩
    rw [List.length_take] at hj
    have he : tkz (ts.take i) j = tkz ts j := by
      unfold tkz
      rw [List.getD_eq_getElem?_getD, List.getD_eq_getElem?_getD, List.getElem?_take, if_pos (by omega)]
    rw [he]; exact hc j (by omega)
theorem tkz_take {ts : List TkA} {i j : Nat} (hj : j < (ts.take i).length) : tkz (ts.take i) j = tkz ts j := by
  rw [List.length_take] at hj
  unfold tkz
  rw [List.getD_eq_getElem?_getD, List.getD_eq_getElem?_getD, List.getElem?_take, if_pos (by omega)]
theorem tkz_app {ts us : List TkA} {j : Nat} : tkz (ts ++ us) j = if j < ts.length then tkz ts j else tkz us (j - ts.length) := by
  unfold tkz
  by_cases h : j < ts.length
  · rw [if_pos h, List.getD_eq_getElem?_getD, List.getD_eq_getElem?_getD, List.getElem?_append_left h]
  · rw [if_neg h, List.getD_eq_getElem?_getD, List.getD_eq_getElem?_getD, List.getElem?_append_right (by omega)]
set_option maxRecDepth 100000 in
set_option maxHeartbeats 8000000 in
theorem soon_walk (a : Option Addr) (cap : Nat) (ts : List TkA) (a' : Option Addr) (cap' : Nat) (us : List TkA) (w : World) (w0 : TokC w a ts cap) (w1 : TokC w a' us cap') (hT : Lib.Utf8Tabs (Tryz.laysValid_ren.g 3) (Tryz.laysValid_ren.g 4) w) (hg : HasErr w) (hsp : Spl w)
    (hs0 : (∀ j, j < ts.length → (tkz ts j).1.text.length ≤ 1048576 ∧ InR (tkz ts j).1.fn) ∧ ts.length ≤ 1048576) (hs1 : (∀ j, j < us.length → (tkz us j).1.text.length ≤ 1048576 ∧ InR (tkz us j).1.fn) ∧ us.length ≤ 1048576) :
    Calls Tryz.prog 7 #[.slice a ts.length cap, .slice a' us.length cap'] w fun e w' => e = .returned (.bool true) ∧ Below w.heap.size w w' := by
  have HS : Hid (Spl w) := hsp
  have HT : Hid (Lib.Utf8Tabs (Tryz.laysValid_ren.g 3) (Tryz.laysValid_ren.g 4) w) := hT
  have HG : Hid (HasErr w) := hg
  have HI : Hid (TokC w a ts cap ∧ TokC w a' us cap') := ⟨w0, w1⟩
  have HZ : Hid (∀ j, j < (ts ++ us).length → InR (tkz (ts ++ us) j).1.num ∧ (tkz (ts ++ us) j).1.text.length ≤ 1048576 ∧ InR (tkz (ts ++ us) j).1.fn) := by
    intro j hj
    rw [List.length_append] at hj
    rw [tkz_app]
    by_cases h : j < ts.length
    · rw [if_pos h]; exact ⟨(w0.1.2.2 j h).1, hs0.1 j h⟩
    · rw [if_neg h]; exact ⟨(w1.1.2.2 _ (by omega)).1, hs1.1 _ (by omega)⟩
  have hl0 := hs0.2
  have hl1 := hs1.2
  clear hsp hT w0 w1 hg hs0 hs1
  obtain ⟨W1, hW1⟩ : ∃ W, W = w.alloc (.cells #[.int .i64 1, .int .i64 0, .int .i64 5, .string ⟨#[]⟩, .int .i64 0, .int .i64 6, .int .i64 0, .int .i64 0, .string ⟨#[]⟩, .int .i64 0] 30) := ⟨_, rfl⟩
  have HB1 : Hid (Below w.heap.size w W1) := by rw [hW1]; exact (Below.refl _ w).alloc (Nat.le_refl _) _
  have hI1 : IsTk W1.heap.size W1 (some ⟨w.heap.size, 0, none⟩) [sN, sR] := by rw [hW1]; exact is_lit18 w [sN, sR]
  have hc1 := parse_any18 (some ⟨w.heap.size, 0, none⟩) 2 [sN, sR] (by decide) (by decide) W1 hI1 (fun j hj => by
    have hj3 : j = 0 ∨ j = 1 := by simp at hj; omega
    rcases hj3 with rfl | rfl <;> exact ⟨by unfold InR; decide, by decide⟩) (HS.out.go HB1.out) (tabs_go HT.out HB1.out)
  rw [show ([sN, sR].map Prod.fst) = [⟨1, 0, 5, []⟩, ⟨6, 0, 0, []⟩] from rfl, fact_soon, show [sN, sR].length = 2 from rfl] at hc1
  clear hI1
  go_enter Tryz.func7, Tryz.ntmps7
  go_wp2_with fail
  rw [← hW1]
  clear hW1
  refine hc1.mono ?_
  rintro e w2 ⟨hb2, h2⟩
  have h2 : e = .returned (.tuple #[.slice none 0 0, .int .i64 ((1 : Nat) : Int), errV 1]) := h2
  obtain rfl := h2
  have HB2 : Hid (Below w.heap.size w w2) := HB1.out.trans (hb2.mono HB1.out.size)
  clear hb2 hc1
  go_wp2_with fail
  refine (error_same 1 w2 (HG.out.go HB2.out)).mono ?_
  rintro e w3 ⟨rfl, hb3⟩
  have HB3 : Hid (Below w.heap.size w w3) := HB2.out.trans (hb3.mono HB2.out.size)
  clear hb3
  obtain ⟨W4, hW4⟩ : ∃ W, W = w3.alloc (.cells #[] 30) := ⟨_, rfl⟩
  have HW4 : Hid (W4 = w3.alloc (.cells #[] 30)) := hW4
  have HB4 : Hid (Below w.heap.size w W4) := by rw [hW4]; exact HB3.out.alloc HB3.out.size _
  have HO4 : Hid (W4.ownsRow w3.heap.size 30 5 (.slice (some ⟨w3.heap.size, 0, none⟩) 0 0) 0 (cl5 [])) := by
    rw [hW4]; exact ⟨rfl, .inr ⟨w3.heap.size, 0, #[], rfl, Nat.le_refl _, World.alloc_heap_new w3 _, by omega, by decide, rfl, rfl⟩⟩
  have HT4 : Hid (IsTk w.heap.size W4 a ts) := HI.out.1.1.2.1.go HB4.out
  have hb4 : w3.heap.size ≤ W4.heap.size := by rw [hW4]; simp
  have hb4' : w.heap.size ≤ w3.heap.size := HB3.out.size
  have hln0 : 0 + ts.length ≤ 3000000 := by omega
  have hln1 : ts.length + us.length ≤ 3000000 := by omega
  clear hW4
  go_wp2_with (at_builtin; first
    | (rw [← HW4.out]; refine app_tok rfl _ _ rfl W4 w3.heap.size (.slice (some ⟨w3.heap.size, 0, none⟩) 0 0) 0 [] a ts.length cap ts rfl rfl rfl HO4.out w.heap.size HT4.out hln0 hb4 ?_; intro g5 c5 w5 hO5 hB5; have HO5 : Hid (w5.ownsRow w3.heap.size 30 5 (.slice g5 ts.length c5) ts.length (cl5 ([] ++ ts))) := (by rw [Nat.zero_add] at hO5; exact hO5); have HB5 : Hid (Below w.heap.size w w5) := HB4.out.trans (hB5.mono hb4'); have HT5 : Hid (IsTk w.heap.size w5 a' us) := HI.out.2.1.2.1.go HB5.out; have hb5 : w3.heap.size ≤ w5.heap.size := Nat.le_trans hb4 hB5.size; clear hO5 hB5)
    | (refine app_tok rfl _ _ rfl w5 w3.heap.size (.slice g5 ts.length c5) ts.length ([] ++ ts) a' us.length cap' us rfl rfl rfl HO5.out w.heap.size HT5.out hln1 hb5 ?_; intro g7 c7 w7 hO7 hB7; have HO7 : Hid (w7.ownsRow w3.heap.size 30 5 (.slice g7 (ts.length + us.length) c7) (ts.length + us.length) (cl5 (ts ++ us))) := hO7; have HB7 : Hid (Below w.heap.size w w7) := HB5.out.trans (hB7.mono hb4'); clear hO7 hB7))
  obtain ⟨N, hN⟩ : ∃ N, N = ts.length + us.length := ⟨_, rfl⟩
  have HN : Hid (N = ts.length + us.length ∧ (ts ++ us).length = N) := ⟨by omega, by rw [List.length_append]; omega⟩
  have hO7 := HO7.out
  rw [← hN] at hO7 ⊢
  obtain ⟨a7, cc7, ev, hI7⟩ := own5_is HN.out.2 hO7
  injection ev with e1 e2 e3
  have HI7 : Hid (IsTk w7.heap.size w7 g7 (ts ++ us)) := by rw [e1]; exact hI7
  have HC7 : Hid (N ≤ c7) := by
    obtain ⟨gg, cg, h1, h2⟩ := own_cap5 hO7
    injection h1 with q1 q2 q3
    show _ ≤ _; omega
  have hNl : N ≤ 3000000 := by omega
  clear hO7 hI7 e1 e2 e3 hN HO7 HO5 HO4 HT4 HT5
  go_loopw [10] (fun i wr => ∃ k : Nat, k ≤ N ∧ i = .int .i64 k ∧ Hid (∀ q, q < k → aloF (tkz (ts ++ us) q).1 = 0) ∧ Hid (Below w7.heap.size w7 wr)) (fun i _ => N - (RowKit.intOf i).toNat)
  case atStart => exact ⟨0, Nat.zero_le _, rfl, (fun q hq => by omega), Below.refl _ _⟩
  case round =>
    obtain ⟨k, hk, rfl, HA, HBr⟩ := hrel
    have HBw : Hid (Below w.heap.size w wr) := HB7.out.trans (HBr.out.mono HB7.out.size)
    by_cases hlt : k < N
    · have hkl : k < (ts ++ us).length := by rw [HN.out.2]; exact hlt
      obtain ⟨g, off, rfl, hg, hcell⟩ := (HI7.out.go HBr.out).at hkl
      obtain ⟨c0, c1, c2, c3, c4⟩ := hcell k hkl
      unfold TkA.s at c3
      have hz := HZ.out k hkl
      have hal := fun W => alone_any (tkz (ts ++ us) k).1 (tkz (ts ++ us) k).2 hz.1 hz.2.2 hz.2.1 W
      clear hcell hz
      by_cases h0 : aloF (tkz (ts ++ us) k).1 = 0
      · rw [h0] at hal
        have H0 : Hid (∀ q, q < k + 1 → aloF (tkz (ts ++ us) q).1 = 0) := fun q hq => by
          by_cases e : q = k
          · rw [e]; exact h0
          · exact HA.out q (by omega)
        clear h0
        go_wp2_with fail
        refine (hal _).mono ?_
        rintro e y1 ⟨rfl, hb⟩
        have HBn : Hid (Below w7.heap.size w7 y1) := HBr.out.trans (hb.mono HBr.out.size)
        clear hb hal
        go_wp2_with fail
        go_roundw
        case rel => exact ⟨k + 1, hlt, by go_num, H0, HBn⟩
        case measure => simp [RowKit.intOf]; omega
      · have hne : (aloF (tkz (ts ++ us) k).1 != 0) = true := by simpa using h0
        clear h0
        generalize aloF (tkz (ts ++ us) k).1 = av at *
        go_wp2_with fail
        refine (hal _).mono ?_
        rintro e y1 ⟨rfl, hb⟩
        have HBn : Hid (Below w.heap.size w y1) := HBw.out.trans (hb.mono HBw.out.size)
        clear hb hal
        go_wp2_with fail
        go_ret
        exact ⟨rfl, HBn.out⟩
    · obtain rfl : k = N := by omega
      have HAL : Hid (Alo (ts.map Prod.fst ++ us.map Prod.fst)) := by
        intro t ht
        rw [← List.map_append] at ht
        obtain ⟨b, hb, rfl⟩ := List.mem_map.1 ht
        obtain ⟨q, hq, rfl⟩ := List.mem_iff_getElem.1 hb
        have := HA.out q (by rw [← HN.out.2]; exact hq)
        unfold tkz at this
        rwa [List.getD_eq_getElem?_getD, List.getElem?_eq_getElem hq] at this
      have hc2 := parse_any18 a cap ts HI.out.1.1.1 HI.out.1.2 wr ((HI.out.1.1.2.1.go HBw.out).mono HBw.out.size) HI.out.1.1.2.2 (HS.out.go HBw.out) (tabs_go HT.out HBw.out)
      clear HA
      cases hP : parS (ts.map Prod.fst) with
      | ok t =>
        rw [hP] at hc2
        clear hP
        go_wp2_with fail
        refine hc2.mono ?_
        rintro e w8 ⟨hb8, ta, tc, tbs, M, rfl, _⟩
        have HB8 : Hid (Below w.heap.size w w8) := HBw.out.trans (hb8.mono HBw.out.size)
        clear hb8 hc2
        go_wp2_with fail
        go_ret
        exact ⟨rfl, HB8.out⟩
      | error x =>
        obtain ⟨i, c⟩ := x
        rw [hP] at hc2
        have hc0 := par_ne18 hP
        have HV : Hid (errV c = .iface 36 (.int .i64 c)) := errV_pos hc0
        have HP : Hid (parS (ts.map Prod.fst) = .error (i, c)) := hP
        clear hP hc0
        go_wp2_with fail
        refine hc2.mono ?_
        rintro e w8 ⟨hb8, h2⟩
        have h2 : e = .returned (.tuple #[.slice none 0 0, .int .i64 (i : Int), errV c]) := h2
        have HB8 : Hid (Below w.heap.size w w8) := HBw.out.trans (hb8.mono HBw.out.size)
        have HB78 : Hid (Below w7.heap.size w7 w8) := HBr.out.trans (hb8.mono HBr.out.size)
        clear hb8 hc2
        by_cases hi : ts.length ≤ i
        · have n1 : (ts.length : Int) ≤ (i : Int) := by omega
          rw [HV.out] at h2
          obtain rfl := h2
          go_wp2_with fail
          go_ret
          exact ⟨rfl, HB8.out⟩
        by_cases h200 : 200 < k
        · have n1 : ¬ (ts.length : Int) ≤ (i : Int) := by omega
          have n2 : (200 : Int) < (k : Int) := by omega
          rw [HV.out] at h2
          obtain rfl := h2
          go_wp2_with fail
          go_ret
          exact ⟨rfl, HB8.out⟩
        obtain ⟨rfl, hpu, hpt⟩ := soon18 HAL.out (by rw [← List.map_append, List.length_map, HN.out.2]; omega) HP.out (by rw [List.length_map]; omega)
        have HPU : Hid (parS ((ts ++ us).map Prod.fst) = .error (i, 1)) := by show _ = _; rw [List.map_append]; exact hpu
        have HPT : Hid (∀ x, parS ((ts.take i).map Prod.fst) = .error x → x = (i, 1)) := by rw [List.map_take]; exact hpt
        have n1 : ¬ (ts.length : Int) ≤ (i : Int) := by omega
        have n2 : ¬ (200 : Int) < (k : Int) := by omega
        clear hpu hpt
        have hv1 := HV.out
        have HES : Hid (∀ W, HasErr W → Calls Tryz.prog 10 #[.iface 36 (.int .i64 1), .int .i64 1] W fun e w' => e = .returned (.bool true) ∧ Below W.heap.size W w') := fun W h => by
          have := error_same 1 W h
          rwa [hv1] at this
        have HED : Hid (∀ W, HasErr W → Calls Tryz.prog 10 #[.nilIface, .int .i64 1] W fun e w' => e = .returned (.bool false) ∧ Below W.heap.size W w') := fun W h => by
          have := error_diff 0 1 (by decide) W h
          exact this
        obtain ⟨g, off, ha, _⟩ := HI.out.1.1.2.1.at (j := 0) (by omega)
        subst ha
        rw [hv1] at h2
        obtain rfl := h2
        clear hv1
        have hicap : (i : Int) ≤ (cap : Int) := by have := HI.out.1.2; omega
        go_wp2_with fail
        refine (HES.out w8 (HG.out.go HB8.out)).mono ?_
        rintro e w9 ⟨rfl, hb9⟩
        have HB9 : Hid (Below w.heap.size w w9) := HB8.out.trans (hb9.mono HB8.out.size)
        have HB79 : Hid (Below w7.heap.size w7 w9) := HB78.out.trans (hb9.mono HB78.out.size)
        clear hb9
        have hc3 := parse_any18 g7 c7 (ts ++ us) (by rw [HN.out.2]; omega) (by rw [HN.out.2]; exact HC7.out) w9 ((HI7.out.go HB79.out).mono HB79.out.size) (fun j hj => ⟨(HZ.out j hj).1, by have := (HZ.out j hj).2.1; omega⟩) (HS.out.go HB9.out) (tabs_go HT.out HB9.out)
        rw [HN.out.2, HPU.out] at hc3
        go_wp2_with fail
        refine hc3.mono ?_
        rintro e w10 ⟨hb10, h2⟩
        have h2 : e = .returned (.tuple #[.slice none 0 0, .int .i64 (i : Int), errV 1]) := h2
        rw [HV.out] at h2
        obtain rfl := h2
        have HB10 : Hid (Below w.heap.size w w10) := HB9.out.trans (hb10.mono HB9.out.size)
        clear hb10 hc3
        go_wp2_with fail
        refine (HES.out w10 (HG.out.go HB10.out)).mono ?_
        rintro e w11 ⟨rfl, hb11⟩
        have HB11 : Hid (Below w.heap.size w w11) := HB10.out.trans (hb11.mono HB10.out.size)
        clear hb11
        have hti : (ts.take i).length = i := by rw [List.length_take]; omega
        have hc4 := parse_any18 (some ⟨g, off, none⟩) cap (ts.take i) (by omega) (by omega) w11 (((HI.out.1.1.2.1.take i).go HB11.out).mono HB11.out.size) (fun j hj => by rw [tkz_take hj]; exact HI.out.1.1.2.2 j (by omega)) (HS.out.go HB11.out) (tabs_go HT.out HB11.out)
        rw [hti] at hc4
        clear hti
        cases hQ : parS ((ts.take i).map Prod.fst) with
        | ok t2 =>
          rw [hQ] at hc4
          clear hQ
          go_wp2_with fail
          refine hc4.mono ?_
          rintro e w12 ⟨hb12, ta, tc, tbs, M, rfl, _⟩
          have HB12 : Hid (Below w.heap.size w w12) := HB11.out.trans (hb12.mono HB11.out.size)
          clear hb12 hc4
          go_wp2_with fail
          refine (HED.out w12 (HG.out.go HB12.out)).mono ?_
          rintro e w13 ⟨rfl, hb13⟩
          have HB13 : Hid (Below w.heap.size w w13) := HB12.out.trans (hb13.mono HB12.out.size)
          clear hb13
          go_wp2_with fail
          go_ret
          exact ⟨rfl, HB13.out⟩
        | error x =>
          obtain rfl := HPT.out x hQ
          rw [hQ] at hc4
          clear hQ
          go_wp2_with fail
          refine hc4.mono ?_
          rintro e w12 ⟨hb12, h2⟩
          have h2 : e = .returned (.tuple #[.slice none 0 0, .int .i64 (i : Int), errV 1]) := h2
          rw [HV.out] at h2
          obtain rfl := h2
          have HB12 : Hid (Below w.heap.size w w12) := HB11.out.trans (hb12.mono HB11.out.size)
          clear hb12 hc4
          go_wp2_with fail
          refine (HES.out w12 (HG.out.go HB12.out)).mono ?_
          rintro e w13 ⟨rfl, hb13⟩
          have HB13 : Hid (Below w.heap.size w w13) := HB12.out.trans (hb13.mono HB12.out.size)
          clear hb13
          go_wp2_with fail
          go_ret
          exact ⟨rfl, HB13.out⟩
end Go.Proofs.YtgjgbgllhbdodaaGreatDoor
