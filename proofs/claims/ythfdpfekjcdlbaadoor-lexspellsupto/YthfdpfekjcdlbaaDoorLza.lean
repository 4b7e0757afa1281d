/-
  The reference spells words.
-/
import Derived.Test.YthfdpfekjcdlbaaDoorLyz
namespace Go.Proofs.YthfdpfekjcdlbaaDoor
open Go.RowKit Go.Lib
set_option linter.unusedVariables false

theorem spT_two {t : Tk} (h : ckE t = 0) (hr : InR t.num) : (spT t).length ≤ 2 * t.text.length + 30 := by
  obtain ⟨kind, fn, num, text⟩ := t
  have hB : rtB ⟨kind, fn, num, text⟩ = true := by
    unfold ckE at h
    by_cases e : rtB ⟨kind, fn, num, text⟩ = false
    · rw [if_pos e] at h; omega
    · simpa using e
  simp only at hr
  unfold rtB at hB
  simp only at hB
  unfold spT
  simp only
  by_cases k1 : kind = 1
  · rw [if_pos k1]
    have := dig_len hr; omega
  rw [if_neg k1] at hB ⊢
  by_cases k2 : kind = 2
  · rw [if_pos k2]
    have := dbl_le text
    rw [List.length_append, List.length_cons, List.length_singleton]; omega
  rw [if_neg k2] at hB ⊢
  by_cases k3 : kind = 3
  · rw [if_pos k3]; omega
  rw [if_neg k3] at hB ⊢
  by_cases k4 : kind = 4
  · rw [if_pos k4, decide_eq_true_iff] at hB
    rw [if_pos k4]
    have := tab_short.1 (fn.toNat - 1) (by omega); omega
  rw [if_neg k4, decide_eq_true_iff] at hB
  rw [if_neg k4]
  have := tab_short.2 (kind.toNat - 5) (by omega); omega
/-- What the reference tells of words. -/
def SrP (S : Sp) (w : World) (e : Ending) (w' : World) : Prop :=
  Below w.heap.size w w' ∧ match S with
    | Except.ok s => e = .returned (.tuple #[.string ⟨s.toArray⟩, .int .i64 0])
    | Except.error c => e = .returned (.tuple #[.string ⟨#[]⟩, .int .i64 c])
theorem cat_list (A B : ByteArray) : (A ++ B).data.toList = A.data.toList ++ B.data.toList := by rw [ByteArray.data_append, Array.toList_append]
theorem blank_size (A : ByteArray) : (A ++ (⟨#[32]⟩ : ByteArray)).size = A.size + 1 := by rw [ByteArray.size_append]; rfl
set_option maxRecDepth 100000 in
set_option maxHeartbeats 4000000 in
theorem rspelling_any (a : Option Addr) (cap : Nat) (ts : List TkA) (hlen : ts.length ≤ 9223372036854775807) (w : World) (hI : IsTk w.heap.size w a ts) (hz : ∀ j, j < ts.length → InR (tkz ts j).1.num ∧ InR (tkz ts j).1.fn ∧ (tkz ts j).1.text.length ≤ 1048576) :
    Calls Tryd.prog 7 #[.slice a ts.length cap] w (SrP (spelsS (ts.map Prod.fst)) w) := by
  have HW : Hid (∀ S, spelsS (ts.map Prod.fst) = S → ∀ e w', SrP S w e w' → SrP (spelsS (ts.map Prod.fst)) w e w') := fun S h e w' h2 => by rw [h]; exact h2
  have HC : Hid (∀ j, j < ts.length → InR (tkz ts j).1.num ∧ InR (tkz ts j).1.fn ∧ (tkz ts j).1.text.length ≤ 1048576) := hz
  have HII : Hid (IsTk w.heap.size w a ts) := hI
  clear hI hz
  by_cases hbig : 200 < ts.length
  · have HE : Hid (spelsS (ts.map Prod.fst) = .bad 7) := by show _ = _; unfold spelsS; rw [List.length_map, if_pos hbig]
    have hb2 : (200 : Int) < (ts.length : Int) := by omega
    go_enter Tryd.func7, Tryd.ntmps7
    go_wp2_with fail
    exact bodyPost_ret (v := .tuple #[.string ⟨#[]⟩, .int .i64 7]) (by simp [results, Tryd.results7, go_sem]; done) rfl (HW.out _ HE.out _ _ ⟨Below.refl _ _, rfl⟩)
  · have hb2 : ¬ (200 : Int) < (ts.length : Int) := by omega
    have HQ : Hid (spelsS (ts.map Prod.fst) = if ckL (ts.map Prod.fst) = 0 then (if 1000 < (jnA ts ts.length).length then .bad 7 else .ok (jnA ts ts.length)) else .bad (ckL (ts.map Prod.fst))) := by
      show _ = _
      rw [spelsS_ck (by rw [List.length_map]; omega), jnA_full]
    go_enter Tryd.func7, Tryd.ntmps7
    go_wp2_with fail
    go_loopw [4, 5] (fun t v wr => ∃ (k : Nat) (T : ByteArray), t = .string T ∧ v = .int .i64 k ∧ k ≤ ts.length ∧ Hid (∀ j, j < k → ckE (tkz ts j).1 = 0) ∧ Hid (T.data.toList = jnA ts k) ∧ T.size ≤ k * 3000000 ∧ Hid (Below w.heap.size w wr)) (fun _ v _ => ts.length - (RowKit.intOf v).toNat)
    case atStart => exact ⟨0, ⟨#[]⟩, rfl, rfl, Nat.zero_le _, (fun j hj => by omega : ∀ j, j < 0 → ckE (tkz ts j).1 = 0), rfl, Nat.zero_le _, Below.refl _ _⟩
    case round =>
      obtain ⟨k, T, rfl, rfl, hk, HG, HT, hT, HB⟩ := hrel
      by_cases hlt : k < ts.length
      · obtain ⟨g, off, rfl, hg, hcell⟩ := (HII.out.go HB.out).at hlt
        obtain ⟨c0, c1, c2, c3, c4⟩ := hcell k hlt
        clear hcell
        obtain ⟨hrn, hfn, htl⟩ := HC.out k hlt
        have HLE : Hid (ckE (tkz ts k).1 ≠ 0 → spelsS (ts.map Prod.fst) = .bad (ckE (tkz ts k).1)) := fun h => by
          have e := ckL_at (ts.map Prod.fst) k ⟨0, 0, 0, []⟩ (by rw [List.length_map]; exact hlt) (fun j hj => by rw [map_at (by omega)]; exact HG.out j hj) (by rw [map_at hlt]; exact h)
          rw [map_at hlt] at e
          rw [HQ.out, e, if_neg h]
        have HGG : Hid (ckE (tkz ts k).1 = 0 → ∀ j, j < k + 1 → ckE (tkz ts j).1 = 0) := fun h j hj => by
          rcases Nat.lt_succ_iff_lt_or_eq.1 hj with h1 | rfl
          · exact HG.out j h1
          · exact h
        have hlk : (k : Int) < (ts.length : Int) := by omega
        have hcc := ckE_cases (tkz ts k).1
        have hst := jnA_step hlt
        have hck := spel_ck (tkz ts k).1
        have hsz2 : ckE (tkz ts k).1 = 0 → (spT (tkz ts k).1).length ≤ 2999999 := fun h => by have := spT_two h hrn; omega
        generalize hx : tkz ts k = x at *
        obtain ⟨⟨tk, tf, tn, tt⟩, ta⟩ := x
        simp only [TkA.s] at c0 c1 c2 c3 c4
        have hcall := rspelt_any ⟨tk, tf, tn, tt⟩ ta hrn hfn htl wr
        simp only [tokI] at hcall
        have hlt2 : k * 3000000 ≤ 600000000 := by omega
        clear hx hrn hfn htl
        go_wp2_with fail
        refine hcall.mono ?_
        rintro e w2 ⟨hB2, hE⟩
        have HB2 : Hid (Below w.heap.size w w2) := HB.out.trans (hB2.mono HB.out.size)
        clear hB2 hcall
        by_cases hok : ckE ⟨tk, tf, tn, tt⟩ = 0
        · have hck2 : spelS ⟨tk, tf, tn, tt⟩ = .ok (spT ⟨tk, tf, tn, tt⟩) := hck.trans (if_pos hok)
          rw [hck2] at hE
          have hE2 : e = .returned (.tuple #[.string ⟨(spT ⟨tk, tf, tn, tt⟩).toArray⟩, .int .i64 0]) := hE
          subst hE2
          have HN : Hid (∀ j, j < k + 1 → ckE (tkz ts j).1 = 0) := HGG.out hok
          have hs2 := hsz2 hok
          obtain ⟨sp, hsp⟩ : ∃ sp, spT ⟨tk, tf, tn, tt⟩ = sp := ⟨_, rfl⟩
          have hst2 : jnA ts (k + 1) = if k = 0 then sp else jnA ts k ++ 32 :: sp := by rw [hst, hsp]
          have hs3 : sp.length ≤ 2999999 := by rw [← hsp]; exact hs2
          rw [hsp]
          have hYz : (⟨sp.toArray⟩ : ByteArray).size = sp.length := size_mk _
          have HYl : Hid ((⟨sp.toArray⟩ : ByteArray).data.toList = sp) := rfl
          clear hck hck2 hsz2 hst hsp hok hcc hs2 hE
          generalize (⟨sp.toArray⟩ : ByteArray) = Y at *
          by_cases hk0 : k = 0
          · have HJ : Hid ((T ++ Y).data.toList = jnA ts (k + 1)) := by
              show _ = _
              rw [cat_list, HT.out, HYl.out, hst2, if_pos hk0]
              have : jnA ts k = [] := by rw [hk0]; rfl
              rw [this]; rfl
            have hzz : (T ++ Y).size = T.size + Y.size := ByteArray.size_append
            have hkp : ¬ (0 : Int) < (k : Int) := by omega
            clear hk0 hst2
            go_wp2_with fail
            refine ⟨⟨k + 1, T ++ Y, rfl, by first | rfl | go_num, hlt, HN, HJ, by rw [hzz]; omega, HB2⟩, by simp [RowKit.intOf]; omega⟩
          · have HJ : Hid ((T ++ (⟨#[32]⟩ : ByteArray) ++ Y).data.toList = jnA ts (k + 1)) := by
              show _ = _
              rw [cat_list, cat_list, HT.out, HYl.out, hst2, if_neg hk0, List.append_assoc]; rfl
            have hz1 := blank_size T
            have hzz : (T ++ (⟨#[32]⟩ : ByteArray) ++ Y).size = T.size + 1 + Y.size := by rw [ByteArray.size_append, hz1]
            have hkp : (0 : Int) < (k : Int) := by omega
            clear hk0 hst2
            go_wp2_with fail
            refine ⟨⟨k + 1, T ++ (⟨#[32]⟩ : ByteArray) ++ Y, rfl, by first | rfl | go_num, hlt, HN, HJ, by rw [hzz]; omega, HB2⟩, by simp [RowKit.intOf]; omega⟩
        · have hck2 : spelS ⟨tk, tf, tn, tt⟩ = .bad (ckE ⟨tk, tf, tn, tt⟩) := hck.trans (if_neg hok)
          rw [hck2] at hE
          have hE2 : ∃ Y : ByteArray, e = .returned (.tuple #[.string Y, .int .i64 (ckE ⟨tk, tf, tn, tt⟩)]) := hE
          obtain ⟨Y, rfl⟩ := hE2
          have HE : Hid (spelsS (ts.map Prod.fst) = .bad (ckE ⟨tk, tf, tn, tt⟩)) := HLE.out hok
          clear hck hck2 hsz2 hst hE HLE HGG
          generalize ckE ⟨tk, tf, tn, tt⟩ = c at *
          have hcn : (c != 0) = true := by simpa using hok
          clear hok hcc
          go_wp2_with fail
          exact bodyPost_ret (v := .tuple #[.string ⟨#[]⟩, .int .i64 c]) (by simp [results, Tryd.results7, go_sem]; done) rfl (HW.out _ HE.out _ _ ⟨HB2.out, rfl⟩)
      · obtain rfl : k = ts.length := by omega
        have HZ : Hid (ckL (ts.map Prod.fst) = 0) := ckL_none _ ⟨0, 0, 0, []⟩ (fun j hj => by rw [List.length_map] at hj; rw [map_at hj]; exact HG.out j hj)
        have hTs : T.size = (jnA ts ts.length).length := by rw [size_eq, HT.out]
        by_cases hlong : 1000 < T.size
        · have HE : Hid (spelsS (ts.map Prod.fst) = .bad 7) := by show _ = _; rw [HQ.out, HZ.out, if_pos rfl, if_pos (by omega)]
          have hl2 : (1000 : Int) < (T.size : Int) := by omega
          clear hTs
          go_wp2_with fail
          exact bodyPost_ret (v := .tuple #[.string ⟨#[]⟩, .int .i64 7]) (by simp [results, Tryd.results7, go_sem]; done) rfl (HW.out _ HE.out _ _ ⟨HB.out, rfl⟩)
        · have HE : Hid (spelsS (ts.map Prod.fst) = .ok T.data.toList) := by show _ = _; rw [HQ.out, HZ.out, if_pos rfl, if_neg (by omega), HT.out]
          have hl2 : ¬ (1000 : Int) < (T.size : Int) := by omega
          clear hTs
          go_wp2_with fail
          exact bodyPost_ret (v := .tuple #[.string T, .int .i64 0]) (by simp [results, Tryd.results7, go_sem]; done) rfl (HW.out _ HE.out _ _ ⟨HB.out, rfl⟩)
end Go.Proofs.YthfdpfekjcdlbaaDoor
