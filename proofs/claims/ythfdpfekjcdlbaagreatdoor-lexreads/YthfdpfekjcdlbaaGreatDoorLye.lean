/-
  The reference reads a line.
-/
import Derived.Test.YthfdpfekjcdlbaaGreatDoorLyd
import Derived.Test.YthfdpfekjcdlbaaGreatDoorLxs
namespace Go.Proofs.YthfdpfekjcdlbaaGreatDoor
open Go.RowKit Go.Lib
set_option linter.unusedVariables false

/-- What the reference tells of a line. -/
def RlP (L : Ln) (w : World) (e : Ending) (w' : World) : Prop :=
  Below w.heap.size w w' ∧ match L with
    | Except.ok ws => ∃ a cap, e = .returned (.tuple #[.slice a ws.length cap, .int .i64 0, .int .i64 0]) ∧ IsTk w'.heap.size w' a (rdA ws)
    | Except.error (i, c) => e = .returned (.tuple #[.slice none 0 0, .int .i64 (i : Int), .int .i64 c])
set_option maxRecDepth 100000 in
set_option maxHeartbeats 8000000 in
theorem rwords_any (s : ByteArray) (hs : s.size ≤ 9223372036854775807) (w : World) :
    Calls Tryz.prog 6 #[.string s] w (RlP (lineS (tl s 0)) w) := by
  obtain ⟨i0, hi, hz0, hz1, hz2⟩ := info_parts Tryz.infoTok
  have HW : Hid (∀ L, lineS (tl s 0) = L → ∀ e w', RlP L w e w' → RlP (lineS (tl s 0)) w e w') := fun W h e w' h2 => by rw [h]; exact h2
  by_cases hlong : 1000 < s.size
  · have HE : Hid (lineS (tl s 0) = .bad 0 7) := by show _ = _; unfold lineS; rw [tl_len, if_pos (by omega)]
    have hlong' : (1000 : Int) < (s.size : Int) := by omega
    go_enter Tryz.func6, Tryz.ntmps6
    go_wp2_with fail
    exact bodyPost_ret (v := .tuple #[.slice none 0 0, .int .i64 0, .int .i64 7]) (by simp [results, Tryz.results6, go_sem]; done) rfl (HW.out _ HE.out _ _ ⟨Below.refl _ _, rfl⟩)
  · have hs1 : s.size ≤ 1000 := by omega
    have hlong' : ¬ (1000 : Int) < (s.size : Int) := by omega
    have HF : Hid (lineS (tl s 0) = lineF (tl s 0) 0 []) := by show _ = _; unfold lineS; rw [tl_len, if_neg (by omega)]; rfl
    clear hlong
    go_enter Tryz.func6, Tryz.ntmps6
    go_wp2_with fail
    go_loopw [5, 6] (fun u v wr => ∃ (p : Nat) (ws : List (Tk × Nat)), v = .int .i64 p ∧ p ≤ s.size ∧ Hid (lineS (tl s 0) = lineF (tl s p) p ws ∧ ws.length ≤ 200) ∧ Hid (wr.ownsRow w.heap.size 35 5 u ws.length (cl5 (rdA ws))) ∧ Hid (Below w.heap.size w wr)) (fun _ v _ => s.size - (RowKit.intOf v).toNat)
    case atStart => exact ⟨0, [], rfl, Nat.zero_le _, ⟨HF.out, Nat.zero_le _⟩, World.ownsRow_nil _ _ _ _, Below.refl _ _⟩
    case round =>
      obtain ⟨p, ws, rfl, hp, HI, HO, HB⟩ := hrel
      obtain ⟨a, cap, hu, hIs⟩ := own5_is (rdA_length ws) HO.out
      subst hu
      have HIs : Hid (IsTk wr.heap.size wr a (rdA ws)) := hIs
      clear hIs
      have hl200 := HI.out.2
      by_cases hlt : p < s.size
      · have hlt' : (p : Int) < (s.size : Int) := by omega
        have hcb := begins_any s ⟨#[226, 141, 157]⟩ p (by omega) (by omega) (by decide) wr
        rw [tl_zero] at hcb
        cases hpre : remB.isPrefixOf (tl s p)
        · rw [show (⟨#[226, 141, 157]⟩ : ByteArray).data.toList.isPrefixOf (tl s p) = false from hpre] at hcb
          have hc := tl_cons hlt
          have hb := bt_getD s p
          have hix := index_at s p (p : Int) rfl hlt
          generalize s.data.toList.getD p 0 = b at hc hb
          have hnr : ¬ remB.isPrefixOf (b :: tl s (p + 1)) = true := by rw [← hc, hpre]; exact Bool.false_ne_true
          by_cases h32 : bt s p = 32
          · have t32 : ((bt s p : Int) == 32) = true := by rw [beq_iff_eq]; omega
            have HN : Hid (lineS (tl s 0) = lineF (tl s (p + 1)) (p + 1) ws ∧ ws.length ≤ 200) := by
              refine ⟨?_, HI.out.2⟩
              rw [HI.out.1, hc]; exact lineF_blank (hb.trans h32) _ _
            clear h32 hb hc hnr hpre
            go_wp2_with fail
            refine hcb.mono ?_
            rintro e w1 ⟨rfl, hB1⟩
            have HO1 : Hid (w1.ownsRow w.heap.size 35 5 (.slice a ws.length cap) ws.length (cl5 (rdA ws))) := own5_go HO.out hB1
            have HB1 : Hid (Below w.heap.size w w1) := HB.out.trans (hB1.mono HB.out.size)
            clear hB1 hcb
            go_wp2_with fail
            refine ⟨⟨p + 1, ws, by go_num, hlt, HN, HO1, HB1⟩, by simp [RowKit.intOf]; omega⟩
          · have t32 : ((bt s p : Int) == 32) = false := by rw [beq_eq_false_iff_ne]; omega
            have hb32 : ¬ b.toNat = 32 := by rw [hb]; exact h32
            have HC := rword_any s p hlt (by omega)
            obtain ⟨W, hW⟩ : ∃ W, W = wordS (tl s p) := ⟨_, rfl⟩
            rw [← hW] at HC
            clear h32 hb hpre
            go_wp2_with fail
            refine hcb.mono ?_
            rintro e w1 ⟨rfl, hB1⟩
            have HO1 : Hid (w1.ownsRow w.heap.size 35 5 (.slice a ws.length cap) ws.length (cl5 (rdA ws))) := own5_go HO.out hB1
            have HB1 : Hid (Below w.heap.size w w1) := HB.out.trans (hB1.mono HB.out.size)
            clear hB1 hcb
            go_wp2_with fail
            refine (HC _).mono ?_
            rintro e w2 ⟨hB2, hE⟩
            have HO2 : Hid (w2.ownsRow w.heap.size 35 5 (.slice a ws.length cap) ws.length (cl5 (rdA ws))) := own5_go HO1.out hB2
            have HB2 : Hid (Below w.heap.size w w2) := HB1.out.trans (hB2.mono HB1.out.size)
            clear hB2 HC
            cases W with
            | error c =>
              obtain rfl := hE
              have HE : Hid (lineS (tl s 0) = .bad p c) := by
                show _ = _
                rw [HI.out.1, hc]; rw [hc] at hW
                exact lineF_bad hnr hb32 hW.symm _ _
              have hcc : c = 1 ∨ c = 6 ∨ c = 7 := word_err hW.symm
              clear hW hc hnr hb32
              simp only [tokZ]
              rcases hcc with rfl | rfl | rfl
              all_goals
                go_wp2_with fail
                exact bodyPost_ret (v := .tuple #[.slice none 0 0, .int .i64 (p : Int), .int .i64 _]) (by simp [results, Tryz.results6, go_sem]; done) rfl (HW.out _ HE.out _ _ ⟨HB2.out.alloc HB2.out.size _, rfl⟩)
            | ok tn =>
              obtain ⟨t, n⟩ := tn
              obtain rfl := hE
              have hwl := word_len hW.symm
              rw [tl_len] at hwl
              obtain ⟨tk, tg, tn, tt⟩ := t
              have hz2' := HB2.out.size
              simp only [tokV]
              by_cases hfull : ws.length = 200
              · have tf : (200 : Int) ≤ (ws.length : Int) := by omega
                have HE : Hid (lineS (tl s 0) = .bad p 7) := by
                  show _ = _
                  rw [HI.out.1, hc]; rw [hc] at hW
                  exact lineF_full hnr hb32 hW.symm _ _ (by omega)
                clear hW hc hnr hb32 hfull
                go_wp2_with fail
                exact bodyPost_ret (v := .tuple #[.slice none 0 0, .int .i64 (p : Int), .int .i64 7]) (by simp [results, Tryz.results6, go_sem]; done) rfl (HW.out _ HE.out _ _ ⟨HB2.out.alloc HB2.out.size _, rfl⟩)
              · have tf : ¬ (200 : Int) ≤ (ws.length : Int) := by omega
                have HN : Hid (lineS (tl s 0) = lineF (tl s (p + n)) (p + n) (ws ++ [(⟨tk, tg, tn, tt⟩, p)])) := by
                  show _ = _
                  rw [HI.out.1]
                  have h := hc
                  rw [h] at hW
                  rw [h, lineF_word hnr hb32 hW.symm _ _ (by omega), ← h, tl_drop]
                have hl2 : ws.length < 200 := by omega
                clear hW hc hnr hb32 hfull
                obtain ⟨y3, hy3⟩ : ∃ y3, y3 = (w2.alloc (.cells #[.int .i64 tk, .int .i64 tg, .int .i64 tn, .string ⟨tt.toArray⟩, .int .i64 (p : Int)] 35)).alloc (.cells #[.int .i64 tk, .int .i64 tg, .int .i64 tn, .string ⟨tt.toArray⟩, .int .i64 (p : Int)] 35) := ⟨_, rfl⟩
                have HY3 : Hid (y3 = (w2.alloc (.cells #[.int .i64 tk, .int .i64 tg, .int .i64 tn, .string ⟨tt.toArray⟩, .int .i64 (p : Int)] 35)).alloc (.cells #[.int .i64 tk, .int .i64 tg, .int .i64 tn, .string ⟨tt.toArray⟩, .int .i64 (p : Int)] 35)) := hy3
                have hB3 : Below w2.heap.size w2 y3 := by rw [hy3]; exact ((Below.refl _ w2).alloc (Nat.le_refl _) _).alloc (by simp) _
                have HO3 : Hid (y3.ownsRow w.heap.size 35 5 (.slice a ws.length cap) ws.length (cl5 (rdA ws))) := own5_go HO2.out hB3
                have HB3 : Hid (Below w.heap.size w y3) := HB2.out.trans (hB3.mono hz2')
                have HH3 : Hid (y3.heap[w2.heap.size + 1]? = some (.cells #[.int .i64 tk, .int .i64 tg, .int .i64 tn, .string ⟨tt.toArray⟩, .int .i64 (p : Int)] 35 (0, 0))) := by rw [hy3]; have h := World.alloc_heap_new (w2.alloc (.cells #[.int .i64 tk, .int .i64 tg, .int .i64 tn, .string ⟨tt.toArray⟩, .int .i64 (p : Int)] 35)) (.cells #[.int .i64 tk, .int .i64 tg, .int .i64 tn, .string ⟨tt.toArray⟩, .int .i64 (p : Int)] 35); rw [World.size_alloc] at h; exact h
                have hsz3 : y3.heap.size = w2.heap.size + 1 + 1 := by rw [hy3]; simp
                clear hB3 hy3
                go_wp2_with (at_builtin; rw [← HY3.out]; refine wpList_append_lies y3 rfl _ _ 22 rfl w.heap.size 35 i0 (.agg #[.int .i64 0, .int .i64 0, .int .i64 0, .string ⟨#[]⟩, .int .i64 0]) 5 48 Tryz.underlying22 hi hz0 hz1 hz2 rfl (by decide) (.slice a ws.length cap) ws.length (cl5 (rdA ws)) rfl HO3.out ⟨w2.heap.size + 1, 0, none⟩ 1 1 [.int .i64 tk, .int .i64 tg, .int .i64 tn, .string ⟨tt.toArray⟩, .int .i64 (p : Int)] rfl rfl (World.news_of_block (cs := #[.int .i64 tk, .int .i64 tg, .int .i64 tn, .string ⟨tt.toArray⟩, .int .i64 (p : Int)]) HH3.out) (by simp [Value.oneCell']) (by decide) (by unfold maxLen; omega) (by omega) (by omega) y3.heap.size rfl ?_; intro g gc y4 hown4 hg4 hw4 hl4; have HB4 : Hid (Below w.heap.size w y4) := HB3.out.grown hg4 (by omega) (fun j hj => by have := own_ge HO3.out j hj; omega))
                refine ⟨⟨p + n, ws ++ [(⟨tk, tg, tn, tt⟩, p)], by first | rfl | go_num, by omega, ⟨HN.out, by rw [List.length_append, List.length_singleton]; omega⟩, ?_, HB4⟩, by simp [RowKit.intOf]; omega⟩
                rw [List.length_append, List.length_singleton, rdA_snoc, cl5_snoc]
                exact hown4
        · rw [show (⟨#[226, 141, 157]⟩ : ByteArray).data.toList.isPrefixOf (tl s p) = true from hpre] at hcb
          have HE : Hid (lineS (tl s 0) = .ok ws) := by
            show _ = _
            rw [HI.out.1]; exact lineF_rem hpre _ _
          clear hpre
          go_wp2_with fail
          refine hcb.mono ?_
          rintro e w1 ⟨rfl, hB1⟩
          have HI1 : Hid (IsTk w1.heap.size w1 a (rdA ws)) := (HIs.out.go hB1).mono hB1.size
          have HB1 : Hid (Below w.heap.size w w1) := HB.out.trans (hB1.mono HB.out.size)
          clear hB1 hcb
          go_wp2_with fail
          exact bodyPost_ret (v := .tuple #[.slice a ws.length cap, .int .i64 0, .int .i64 0]) (by simp [results, Tryz.results6, go_sem]; done) rfl (HW.out _ HE.out _ _ ⟨HB1.out, a, cap, rfl, HI1.out⟩)
      · have hlt' : ¬ (p : Int) < (s.size : Int) := by omega
        have HE : Hid (lineS (tl s 0) = .ok ws) := by
          show _ = _
          rw [HI.out.1, tl_end hlt]; rfl
        go_wp2_with fail
        exact bodyPost_ret (v := .tuple #[.slice a ws.length cap, .int .i64 0, .int .i64 0]) (by simp [results, Tryz.results6, go_sem]; done) rfl (HW.out _ HE.out _ _ ⟨HB.out, a, cap, rfl, HIs.out⟩)
end Go.Proofs.YthfdpfekjcdlbaaGreatDoor
