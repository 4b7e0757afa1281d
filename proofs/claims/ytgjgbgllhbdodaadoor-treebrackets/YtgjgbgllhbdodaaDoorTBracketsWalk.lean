/-
  The walk of the statement on brackets about all of a line.
-/
import Derived.Test.YtgjgbgllhbdodaaDoorTrj
import Derived.Test.YtgjgbgllhbdodaaDoorLzu
import Derived.Test.YtgjgbgllhbdodaaDoorLyv
import Derived.Test.YtgjgbgllhbdodaaDoorTqd
namespace Go.Proofs.YtgjgbgllhbdodaaDoor
open Go.RowKit Go.Lib
set_option linter.unusedVariables false

theorem bad_ne : ∀ (ts : List Tk) (i : Nat) (j : Nat) (c : Int), badW ts i = some (j, c) → c ≠ 0
  | [], i, j, c, h => by cases h
  | t :: r, i, j, c, h => by
    simp only [badW] at h
    by_cases h0 : aloF t = 0
    · rw [if_pos h0] at h; exact bad_ne r (i + 1) j c h
    · rw [if_neg h0] at h
      have := Option.some.inj h
      rw [← (Prod.mk.inj this).2]; exact h0
theorem par_ne {ts : List Tk} {i : Nat} {c : Int} (h : parS ts = .error (i, c)) : c ≠ 0 := by
  unfold parS at h
  by_cases hl : 200 < ts.length
  · rw [if_pos hl] at h; cases h; decide
  · rw [if_neg hl] at h
    match e : badW ts 0 with
    | some (j, d) =>
      rw [e] at h
      cases h; exact bad_ne ts 0 _ _ e
    | none =>
      rw [e] at h
      simp only [] at h
      match e2 : lnP ts with
      | .error k => rw [e2] at h; cases h; decide
      | .ok ns => rw [e2] at h; cases h
theorem alo_lr : aloF ⟨5, 0, 0, []⟩ = 0 ∧ aloF ⟨6, 0, 0, []⟩ = 0 := by constructor <;> rfl
theorem fact_bra : parS [⟨5, 0, 0, []⟩, ⟨1, 0, 5, []⟩, ⟨6, 0, 0, []⟩] = .ok [⟨1, ac0, 0, [5], []⟩] := by
  have ha : Alo [⟨5, 0, 0, []⟩, ⟨1, 0, 5, []⟩, ⟨6, 0, 0, []⟩] := by
    intro t ht
    simp only [List.mem_cons, List.not_mem_nil, or_false] at ht
    rcases ht with rfl | rfl | rfl
    · exact alo_lr.1
    · exact alo_nu 5 (by unfold InR; decide)
    · exact alo_lr.2
  rw [par_alo ha (by decide), show lnP [⟨5, 0, 0, []⟩, ⟨1, 0, 5, []⟩, ⟨6, 0, 0, []⟩] = .ok [⟨1, ac0, 0, [5], []⟩] by rfl]
def tL : TkA := (⟨5, 0, 0, []⟩, 0)
def tR : TkA := (⟨6, 0, 0, []⟩, 0)
def tN : TkA := (⟨1, 0, 5, []⟩, 0)
theorem ndz_one {bs : List NdA} {n : Nod} {r : List Nod} (h : bs.map Prod.fst = n :: r) : 0 < bs.length ∧ (ndz bs 0).1 = n := by
  match bs, h with
  | b :: q, h => exact ⟨by simp, (List.cons.inj h).1⟩
set_option maxRecDepth 100000 in
set_option maxHeartbeats 8000000 in
theorem brackets_walk (a : Option Addr) (cap : Nat) (ts : List TkA) (w : World) (w0 : TokC w a ts cap) (hT : Lib.Utf8Tabs (Tryd.laysValid_ren.g 3) (Tryd.laysValid_ren.g 4) w) (hsp : Spl w) :
    Calls Tryd.prog 3 #[.slice a ts.length cap] w fun e w' => e = .returned (.bool true) ∧ Below w.heap.size w w' := by
  have HS : Hid (Spl w) := hsp
  have HT : Hid (Lib.Utf8Tabs (Tryd.laysValid_ren.g 3) (Tryd.laysValid_ren.g 4) w) := hT
  have HI : Hid (TokC w a ts cap) := w0
  clear hsp hT w0
  obtain ⟨i0, hi, hz0, hz1, hz2⟩ := info_parts Tryd.infoTok
  obtain ⟨W1, hW1⟩ : ∃ W, W = w.alloc (.cells #[.int .i64 5, .int .i64 0, .int .i64 0, .string ⟨#[]⟩, .int .i64 0, .int .i64 1, .int .i64 0, .int .i64 5, .string ⟨#[]⟩, .int .i64 0, .int .i64 6, .int .i64 0, .int .i64 0, .string ⟨#[]⟩, .int .i64 0] 30) := ⟨_, rfl⟩
  have HB1 : Hid (Below w.heap.size w W1) := by rw [hW1]; exact (Below.refl _ w).alloc (Nat.le_refl _) _
  have hI1 : IsTk W1.heap.size W1 (some ⟨w.heap.size, 0, none⟩) [tL, tN, tR] := by rw [hW1]; exact is_lit18 w [tL, tN, tR]
  have hc1 := parse_any18 (some ⟨w.heap.size, 0, none⟩) 3 [tL, tN, tR] (by decide) (by decide) W1 hI1 (fun j hj => by
    have hj3 : j = 0 ∨ j = 1 ∨ j = 2 := by simp at hj; omega
    rcases hj3 with rfl | rfl | rfl <;> exact ⟨by unfold InR; decide, by decide⟩) (HS.out.go HB1.out) (tabs_go HT.out HB1.out)
  rw [show ([tL, tN, tR].map Prod.fst) = [⟨5, 0, 0, []⟩, ⟨1, 0, 5, []⟩, ⟨6, 0, 0, []⟩] from rfl, fact_bra, show [tL, tN, tR].length = 3 from rfl] at hc1
  clear hI1
  go_enter Tryd.func3, Tryd.ntmps3
  go_wp2_with fail
  rw [← hW1]
  clear hW1
  refine hc1.mono ?_
  rintro e w2 ⟨hb2, fa, fc, fbs, M, rfl, hM, hmap, hnd, _⟩
  have hM1 : M = 1 := hM.out
  subst hM1
  have HB2 : Hid (Below w.heap.size w w2) := HB1.out.trans (hb2.mono HB1.out.size)
  obtain ⟨hpos, hfst⟩ := ndz_one hmap
  obtain ⟨g, off, rfl, hg, hcell⟩ := hnd.is.at hpos
  have c0 := (hcell 0 hpos).1.1
  rw [hfst, Nat.zero_mul, Nat.add_zero] at c0
  simp only at c0
  clear hcell hfst hpos hnd hmap hM hb2 hc1
  have hc2 := parse_any18 a cap ts HI.out.1.1 HI.out.2 w2 ((HI.out.1.2.1.go HB2.out).mono HB2.out.size) HI.out.1.2.2 (HS.out.go HB2.out) (tabs_go HT.out HB2.out)
  cases hP : parS (ts.map Prod.fst) with
  | error x =>
    obtain ⟨i, c⟩ := x
    rw [hP] at hc2
    have hc0 := par_ne hP
    have HV : Hid (errV c = .iface 38 (.int .i64 c)) := errV_pos hc0
    clear hP hc0
    go_wp2_with fail
    refine hc2.mono ?_
    rintro e w3 ⟨hb3, h2⟩
    have h2 : e = .returned (.tuple #[.slice none 0 0, .int .i64 (i : Int), errV c]) := h2
    rw [HV.out] at h2
    obtain rfl := h2
    have HB3 : Hid (Below w.heap.size w w3) := HB2.out.trans (hb3.mono HB2.out.size)
    clear hb3 hc2
    go_wp2_with fail
    go_ret
    exact ⟨rfl, HB3.out⟩
  | ok t =>
    rw [hP] at hc2
    have HPt : Hid (parS (ts.map Prod.fst) = .ok t) := hP
    have hl200 : ts.length ≤ 200 := by have := (again18 hP).2.2.2.2; rwa [List.length_map] at this
    clear hP
    go_wp2_with fail
    refine hc2.mono ?_
    rintro e w3 ⟨hb3, ta, tc, tbs, M, rfl, hM, hmap, hnd, hws⟩
    have HB3 : Hid (Below w.heap.size w w3) := HB2.out.trans (hb3.mono HB2.out.size)
    have HN3 : Hid (IsNd w3 ta tbs) := hnd.is
    have HM : Hid (M = t.length ∧ tbs.map Prod.fst = t ∧ wsum t ≤ 200 ∧ tbs.length = M) := ⟨hM.out, hmap, hws, hnd.1⟩
    clear hb3 hc2 hnd hmap hws hM
    by_cases hlong : 200 < ts.length + 2
    · have n1 : (200 : Int) < (ts.length : Int) + 2 := by omega
      go_wp2_with fail
      go_ret
      exact ⟨rfl, HB3.out⟩
    have n1 : ¬ (200 : Int) < (ts.length : Int) + 2 := by omega
    by_cases hM0 : M = 0
    · have n2 : ((M : Int) == 0) = true := by rw [hM0]; rfl
      go_wp2_with fail
      go_ret
      exact ⟨rfl, HB3.out⟩
    have n2 : ((M : Int) == 0) = false := by simpa using hM0
    obtain ⟨g1, o1, rfl, hg1, hcell1⟩ := HN3.out.at (j := 0) (by rw [HM.out.2.2.2]; omega)
    have d0 := (hcell1 0 (by rw [HM.out.2.2.2]; omega)).1.1
    rw [Nat.zero_mul, Nat.add_zero] at d0
    clear hcell1
    have hM1 : 0 < M := by omega
    by_cases h9 : (ndz tbs 0).1.op = 9
    · rw [h9] at d0
      go_wp2_with fail
      go_ret
      exact ⟨rfl, HB3.out⟩
    have n9 : ((ndz tbs 0).1.op == 9) = false := by simpa using h9
    obtain ⟨nd, tr, ht, hnd9⟩ : ∃ nd tr, t = nd :: tr ∧ nd.op ≠ 9 := by
      match t, HM.out with
      | [], h => exact absurd h.1 hM0
      | nd :: tr, h => exact ⟨nd, tr, rfl, by rw [← (ndz_one h.2.1).2]; exact h9⟩
    have hts : 0 < ts.length := by
      rcases Nat.eq_zero_or_pos ts.length with h | h
      · have he : ts = [] := List.eq_nil_of_length_eq_zero h
        have := HPt.out
        rw [he] at this
        cases this
      · exact h
    have HPU : Hid (parS (([tL] ++ ts ++ [tR]).map Prod.fst) = .ok t) := by
      show _ = _
      have h1 := HPt.out
      rw [ht] at h1 ⊢
      have := bra18 h1 hnd9 (by rw [List.length_map]; omega) (l := ⟨5, 0, 0, []⟩) (r := ⟨6, 0, 0, []⟩) rfl rfl alo_lr.1 alo_lr.2
      rw [List.map_append, List.map_append]
      exact this
    clear ht hnd9
    obtain ⟨gt, ot, ha, hgt, hct⟩ := HI.out.1.2.1.at hts
    subst ha
    obtain ⟨W4, hW4⟩ : ∃ W, W = w3.alloc (.cells #[.int .i64 5, .int .i64 0, .int .i64 0, .string ⟨#[]⟩, .int .i64 0] 30) := ⟨_, rfl⟩
    have HW4 : Hid (W4 = w3.alloc (.cells #[.int .i64 5, .int .i64 0, .int .i64 0, .string ⟨#[]⟩, .int .i64 0] 30)) := hW4
    have HB4 : Hid (Below w.heap.size w W4) := by rw [hW4]; exact HB3.out.alloc HB3.out.size _
    have HB34 : Hid (Below w3.heap.size w3 W4) := by rw [hW4]; exact (Below.refl _ w3).alloc (Nat.le_refl _) _
    have HO4 : Hid (W4.ownsRow w3.heap.size 30 5 (.slice (some ⟨w3.heap.size, 0, none⟩) 1 1) 1 (cl5 [tL])) := by
      rw [hW4]; exact ⟨rfl, .inr ⟨w3.heap.size, 1, #[.int .i64 5, .int .i64 0, .int .i64 0, .string ⟨#[]⟩, .int .i64 0], rfl, Nat.le_refl _, World.alloc_heap_new w3 _, by omega, by decide, rfl, rfl⟩⟩
    have hnews : ∀ j u, (cl5 ts)[j]? = some u → W4.cell? ((⟨gt, ot, none⟩ : Addr).add j) = some u := by
      intro j u hu
      have h := cl5_news ts ot (fun q hq => hct q hq) j u hu
      rw [show (⟨gt, ot, none⟩ : Addr).add j = ⟨gt, ot + j, none⟩ by unfold Addr.add; split; rename_i h0; subst h0; rfl; rfl]
      exact (HB4.out.cell (p := ⟨gt, ot + j, none⟩) hgt).trans h
    have hnl : (cl5 ts).length = ts.length * 5 := cl5_length ts
    have hb4 : w3.heap.size ≤ W4.heap.size := HB34.out.size
    have hw3 : w.heap.size ≤ w3.heap.size := HB3.out.size
    clear hW4 hct
    go_wp2_with (at_builtin; first
      | (rw [← HW4.out]; refine wpList_append_lies W4 rfl _ _ 22 rfl w3.heap.size 30 i0 (.agg #[.int .i64 0, .int .i64 0, .int .i64 0, .string ⟨#[]⟩, .int .i64 0]) 5 48 Tryd.underlying22 hi hz0 hz1 hz2 rfl (by decide) (.slice (some ⟨w3.heap.size, 0, none⟩) 1 1) 1 (cl5 [tL]) rfl HO4.out ⟨gt, ot, none⟩ ts.length cap (cl5 ts) rfl hnl hnews (cl5_one18 ts) hts (by unfold maxLen; omega) (by omega) hb4 W4.heap.size rfl ?_; intro g5 cap5 w5 hO5 hg5 hgb5 hl5; have HB5 : Hid (Below w3.heap.size w3 w5) := HB34.out.grown hg5 hb4 (fun k hk => (own_lo HO4.out k hk).1); obtain ⟨W6, hW6⟩ : ∃ W, W = w5.alloc (.cells #[.int .i64 6, .int .i64 0, .int .i64 0, .string ⟨#[]⟩, .int .i64 0] 30) := ⟨_, rfl⟩; have HW6 : Hid (W6 = w5.alloc (.cells #[.int .i64 6, .int .i64 0, .int .i64 0, .string ⟨#[]⟩, .int .i64 0] 30)) := hW6; have HB56 : Hid (Below w5.heap.size w5 W6) := (by rw [hW6]; exact (Below.refl _ w5).alloc (Nat.le_refl _) _); have HO6 : Hid (W6.ownsRow w3.heap.size 30 5 (.slice (some ⟨g5, 0, none⟩) (1 + ts.length) cap5) (1 + ts.length) (cl5 [tL] ++ cl5 ts)) := own5_go hO5 HB56.out; have HH6 : Hid (W6.heap[w5.heap.size]? = some (.cells #[.int .i64 6, .int .i64 0, .int .i64 0, .string ⟨#[]⟩, .int .i64 0] 30 (0, 0))) := (by rw [hW6]; exact World.alloc_heap_new w5 _); have HB6 : Hid (Below w3.heap.size w3 W6) := HB5.out.trans (HB56.out.mono HB5.out.size); have hb6 : w3.heap.size ≤ W6.heap.size := HB6.out.size; clear hW6 hO5 hg5 hgb5 hl5)
      | (rw [← HW6.out]; refine wpList_append_lies W6 rfl _ _ 22 rfl w3.heap.size 30 i0 (.agg #[.int .i64 0, .int .i64 0, .int .i64 0, .string ⟨#[]⟩, .int .i64 0]) 5 48 Tryd.underlying22 hi hz0 hz1 hz2 rfl (by decide) (.slice (some ⟨g5, 0, none⟩) (1 + ts.length) cap5) (1 + ts.length) (cl5 [tL] ++ cl5 ts) rfl HO6.out ⟨w5.heap.size, 0, none⟩ 1 1 [.int .i64 6, .int .i64 0, .int .i64 0, .string ⟨#[]⟩, .int .i64 0] rfl rfl (World.news_of_block (cs := #[.int .i64 6, .int .i64 0, .int .i64 0, .string ⟨#[]⟩, .int .i64 0]) HH6.out) (by simp [Value.oneCell']) (by decide) (by unfold maxLen; omega) (by omega) hb6 W6.heap.size rfl ?_; intro g7 cap7 w7 hO7 hg7 hgb7 hl7))
    have HB7 : Hid (Below w3.heap.size w3 w7) := HB6.out.grown hg7 hb6 (fun k hk => (own_lo HO6.out k hk).1)
    have hO7' : w7.ownsRow w3.heap.size 30 5 (.slice (some ⟨g7, 0, none⟩) (1 + ts.length + 1) cap7) (1 + ts.length + 1) (cl5 ([tL] ++ ts ++ [tR])) := by
      rw [cl5_app18, cl5_app18]; exact hO7
    have hlen7 : ([tL] ++ ts ++ [tR]).length = 1 + ts.length + 1 := by simp only [List.length_append, List.length_singleton]
    obtain ⟨a7, c7, ev, hI7⟩ := own5_is hlen7 hO7'
    injection ev with e1 e2 e3
    have hcap7 : 1 + ts.length + 1 ≤ cap7 := by
      rcases hO7'.2 with ⟨h, _⟩ | ⟨gg, cc, cur, h, _, _, h2, _⟩
      · injection h with h1 h2 h3; cases h1
      · injection h with h1 h3 h4; omega
    have hc3 := parse_any18 (some ⟨g7, 0, none⟩) cap7 ([tL] ++ ts ++ [tR]) (by omega) (by omega) w7 (by rw [e1]; exact hI7) (fun j hj => by
      by_cases h0 : j = 0
      · subst h0; exact ⟨by show InR 0; unfold InR; decide, by show (0 : Nat) ≤ _; decide⟩
      by_cases h1 : j = ts.length + 1
      · have : tkz ([tL] ++ ts ++ [tR]) j = tR := by unfold tkz; rw [List.getD_eq_getElem?_getD, List.getElem?_append_right (by simp; omega)]; simp [h1]
        rw [this]; exact ⟨by show InR 0; unfold InR; decide, by show (0 : Nat) ≤ _; decide⟩
      · have : tkz ([tL] ++ ts ++ [tR]) j = tkz ts (j - 1) := by
          unfold tkz
          rw [List.getD_eq_getElem?_getD, List.getD_eq_getElem?_getD, List.getElem?_append_left (by simp; omega), List.getElem?_append_right (by simp; omega)]
          simp
        rw [this]; exact HI.out.1.2.2 (j - 1) (by omega)) (HS.out.go (HB3.out.trans (HB7.out.mono hw3))) (tabs_go HT.out (HB3.out.trans (HB7.out.mono hw3)))
    rw [hlen7, HPU.out] at hc3
    have HN7 : Hid (IsNd w7 (some ⟨g1, o1, none⟩) tbs) := HN3.out.go HB7.out
    clear hO7 hO7' hg7 hgb7 hl7 hI7 e1 e2 e3 hlen7 hcap7
    refine hc3.mono ?_
    rintro e w8 ⟨hb8, ua, uc, ubs, M2, rfl, hM2, hmap2, hnd2, _⟩
    have HB8 : Hid (Below w.heap.size w w8) := (HB3.out.trans (HB7.out.mono hw3)).trans (hb8.mono (Nat.le_trans hw3 HB7.out.size))
    have hMM : M2 = M := hM2.out.trans HM.out.1.symm
    subst hMM
    have hns := nodes_same ua uc ubs (some ⟨g1, o1, none⟩) tc tbs (by have := wsum_len t; have := HM.out; rw [hnd2.1]; omega) (fun b hb => by
      have hbt : b.1 ∈ t := by rw [← hmap2]; exact List.mem_map.2 ⟨b, hb, rfl⟩
      have := wsum_num t _ hbt
      have := HM.out.2.2.1
      omega) (by rw [hmap2, HM.out.2.1]) w8 hnd2.is (HN7.out.go hb8) M2 hnd2.1
    clear hb8 hmap2 hnd2 hM2 hc3
    go_wp2_with fail
    refine hns.mono ?_
    rintro e w9 ⟨rfl, hb9⟩
    have HB9 : Hid (Below w.heap.size w w9) := HB8.out.trans (hb9.mono HB8.out.size)
    clear hb9 hns
    go_wp2_with fail
    go_ret
    exact ⟨rfl, HB9.out⟩
end Go.Proofs.YtgjgbgllhbdodaaDoor
