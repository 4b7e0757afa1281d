/-
  The reader of words: one word read, or not.
-/
import Derived.Test.YtgjgbgllhbdodaaGreatDoorLxi
import Derived.Test.YtgjgbgllhbdodaaGreatDoorTpb
namespace Go.Proofs.YtgjgbgllhbdodaaGreatDoor
open Go.RowKit Go.Lib
set_option linter.unusedVariables false

theorem kdV_pos {ts : List TkA} {i : Nat} {dp : Int} {wr : Bool} (hi : i ≤ ts.length) (h : kdV ts i dp wr ≠ 0) : wr = false ∧ i < ts.length ∧ kdV ts i dp wr = (tkz ts i).1.kind := by
  unfold kdV at *
  by_cases h1 : wr = true ∨ i = ts.length
  · rw [if_pos h1] at h; exact absurd rfl h
  · rw [if_neg h1] at h ⊢
    by_cases h2 : ((tkz ts i).1.kind = 18 ∨ (tkz ts i).1.kind = 19 ∨ (tkz ts i).1.kind = 20) ∧ dp = 0
    · rw [if_pos h2] at h; exact absurd rfl h
    · rw [if_neg h2]
      refine ⟨by cases wr; rfl; exact absurd (.inl rfl) h1, ?_, rfl⟩
      have : i ≠ ts.length := fun e => h1 (.inr e)
      omega
def tkV (b : TkA) : Value := .agg #[.int .i64 b.1.kind, .int .i64 b.1.fn, .int .i64 b.1.num, b.s, .int .i64 b.2]
def tok0 : Value := .agg #[.int .i64 0, .int .i64 0, .int .i64 0, .string ⟨#[]⟩, .int .i64 0]
/-- What reading a word leaves: the word, the reader's block; all else is as it was. -/
def NxP (rb : Nat) (v : Value) (i : Nat) (dp : Int) (wr : Bool) (w : World) (r : Value) (e : Ending) (w' : World) : Prop :=
  e = .returned r ∧ Rdr w' rb v (i : Int) dp wr ∧ Exc rb w w'
theorem exc_set5 {n b : Nat} {u w : World} (h : Exc n u w) (hb : u.heap.size ≤ b) (a' b' c' d' e' : Value) : Exc n u (((((w.setCell ⟨b, 0, none⟩ a').setCell ⟨b, 1, none⟩ b').setCell ⟨b, 2, none⟩ c').setCell ⟨b, 3, none⟩ d').setCell ⟨b, 4, none⟩ e') :=
  ((((h.setNew (p := ⟨b, 0, none⟩) hb _).setNew (p := ⟨b, 1, none⟩) hb _).setNew (p := ⟨b, 2, none⟩) hb _).setNew (p := ⟨b, 3, none⟩) hb _).setNew (p := ⟨b, 4, none⟩) hb _
theorem Rdr.set5 {w : World} {n b : Nat} {v : Value} {i dp : Int} {wr : Bool} (h : Rdr w n v i dp wr) (hb : n ≠ b) (a' b' c' d' e' : Value) : Rdr (((((w.setCell ⟨b, 0, none⟩ a').setCell ⟨b, 1, none⟩ b').setCell ⟨b, 2, none⟩ c').setCell ⟨b, 3, none⟩ d').setCell ⟨b, 4, none⟩ e') n v i dp wr :=
  ((((h.ot (p := ⟨b, 0, none⟩) hb _).ot (p := ⟨b, 1, none⟩) hb _).ot (p := ⟨b, 2, none⟩) hb _).ot (p := ⟨b, 3, none⟩) hb _).ot (p := ⟨b, 4, none⟩) hb _
set_option maxRecDepth 100000 in
set_option maxHeartbeats 4000000 in
theorem next_no (k : Int) (rb : Nat) (a : Option Addr) (cap : Nat) (ts : List TkA) (hl : ts.length ≤ 1000) (i : Nat) (hi : i ≤ ts.length) (dp : Int) (wr : Bool) (hk : kdV ts i dp wr ≠ k) (w : World) (hR : Rdr w rb (.slice a ts.length cap) (i : Nat) dp wr) (hT : IsTk rb w a ts) :
    Calls Tryz.prog 41 #[.pointer (some ⟨rb, 0, none⟩), .int .i64 k] w (NxP rb (.slice a ts.length cap) i dp true w tok0) := by
  have hc := fun W h1 h2 => kind_any rb a cap ts hl i hi dp wr W h1 h2
  have hne : (kdV ts i dp wr != k) = true := by simpa using hk
  have HR : Hid (Rdr w rb (.slice a ts.length cap) (i : Nat) dp wr) := hR
  have HT : Hid (IsTk rb w a ts) := hT
  have hbs : rb < w.heap.size := hR.lt
  generalize kdV ts i dp wr = kd at *
  clear hR hT hk
  go_enter Tryz.func41, Tryz.ntmps41
  go_wp2_with fail
  refine (hc _ (HR.out.al _) (HT.out.go (((Below.refl rb w).alloc (by omega) _)))).mono ?_
  rintro e w' ⟨rfl, m, rfl⟩
  have HR1 : Hid (Rdr ((w.alloc (.cells #[.int .i64 0, .int .i64 0, .int .i64 0, .string ⟨#[]⟩, .int .i64 0] 30)).drewN m) rb (.slice a ts.length cap) (i : Nat) dp wr) := (HR.out.al _).drN m
  have c3 := HR1.out.c3
  have f3 := HR1.out.fr 3
  go_wp2_with fail
  have K : Tbx (((w.alloc (.cells #[.int .i64 0, .int .i64 0, .int .i64 0, .string ⟨#[]⟩, .int .i64 0] 30)).drewN m).setCell ⟨rb, 3, none⟩ (.bool true)) w.heap.size (.int .i64 0) (.int .i64 0) (.int .i64 0) (.string ⟨#[]⟩) (.int .i64 0) :=
    Tbx.ot (Tbx.new w _ _ _ _ _) (p := ⟨rb, 3, none⟩) (by show w.heap.size ≠ rb; omega) _
  have E : Exc rb w (((w.alloc (.cells #[.int .i64 0, .int .i64 0, .int .i64 0, .string ⟨#[]⟩, .int .i64 0] 30)).drewN m).setCell ⟨rb, 3, none⟩ (.bool true)) := (((Exc.refl rb w).alloc _).drewN m).setCell (p := ⟨rb, 3, none⟩) rfl _
  have R := HR1.out.s3 true
  have F := K.set5 (.int .i64 0) (.int .i64 0) (.int .i64 0) (.string ⟨#[]⟩) (.int .i64 0)
  have q0 := F.c0
  have q1 := F.c1
  have q2 := F.c2
  have q3 := F.c3
  have q4 := F.c4
  exact bodyPost_ret (v := tok0) (by simp [results, Tryz.results41, go_sem, tok0, q0, q1, q2, q3, q4]) rfl ⟨rfl, R.set5 (by omega) _ _ _ _ _, exc_set5 E (Nat.le_refl _) _ _ _ _ _⟩
set_option maxRecDepth 100000 in
set_option maxHeartbeats 4000000 in
theorem next_yes (k : Int) (rb : Nat) (a : Option Addr) (cap : Nat) (ts : List TkA) (hl : ts.length ≤ 1000) (i : Nat) (hi : i ≤ ts.length) (dp : Int) (wr : Bool) (hk : kdV ts i dp wr = k) (h0 : k ≠ 0) (w : World) (hR : Rdr w rb (.slice a ts.length cap) (i : Nat) dp wr) (hT : IsTk rb w a ts) :
    Calls Tryz.prog 41 #[.pointer (some ⟨rb, 0, none⟩), .int .i64 k] w (NxP rb (.slice a ts.length cap) (i + 1) dp wr w (tkV (tkz ts i))) := by
  have hc := fun W h1 h2 => kind_any rb a cap ts hl i hi dp wr W h1 h2
  obtain ⟨_, hlt, _⟩ := kdV_pos hi (by rw [hk]; exact h0)
  have HR : Hid (Rdr w rb (.slice a ts.length cap) (i : Nat) dp wr) := hR
  have HT : Hid (IsTk rb w a ts) := hT
  have hbs : rb < w.heap.size := hR.lt
  rw [hk] at hc
  clear hR hT hk h0
  go_enter Tryz.func41, Tryz.ntmps41
  go_wp2_with fail
  refine (hc _ (HR.out.al _) (HT.out.go (((Below.refl rb w).alloc (by omega) _)))).mono ?_
  rintro e w' ⟨rfl, m, rfl⟩
  obtain ⟨W1, hW1⟩ : ∃ W, W = (w.alloc (.cells #[.int .i64 0, .int .i64 0, .int .i64 0, .string ⟨#[]⟩, .int .i64 0] 30)).drewN m := ⟨_, rfl⟩
  have HR1 : Hid (Rdr W1 rb (.slice a ts.length cap) (i : Nat) dp wr) := by rw [hW1]; exact (HR.out.al _).drN m
  have HK : Hid (Tbx W1 w.heap.size (.int .i64 0) (.int .i64 0) (.int .i64 0) (.string ⟨#[]⟩) (.int .i64 0)) := by rw [hW1]; exact Tbx.new w _ _ _ _ _
  have HE : Hid (Exc rb w W1) := by rw [hW1]; exact ((Exc.refl rb w).alloc _).drewN m
  rw [← hW1]
  clear hW1
  have c1 := HR1.out.c1
  have f1 := HR1.out.fr 1
  go_wp2_with fail
  obtain ⟨W2, hW2⟩ : ∃ W, W = W1.setCell ⟨rb, 1, none⟩ (.int .i64 ((i : Int) + 1)) := ⟨_, rfl⟩
  have HR2 : Hid (Rdr W2 rb (.slice a ts.length cap) ((i : Int) + 1) dp wr) := by rw [hW2]; exact HR1.out.s1 _
  have HK2 : Hid (Tbx W2 w.heap.size (.int .i64 0) (.int .i64 0) (.int .i64 0) (.string ⟨#[]⟩) (.int .i64 0)) := by rw [hW2]; exact HK.out.ot (p := ⟨rb, 1, none⟩) (by show w.heap.size ≠ rb; omega) _
  have HE2 : Hid (Exc rb w W2) := by rw [hW2]; exact HE.out.setCell (p := ⟨rb, 1, none⟩) rfl _
  rw [← hW2]
  clear hW2 c1 f1
  obtain ⟨g, off, rfl, hg, hcell⟩ := (HT.out.go (HE2.out.below (by omega))).at hlt
  obtain ⟨k0, k1, k2, k3, k4⟩ := hcell i hlt
  clear hcell
  obtain ⟨kd, hkd⟩ : ∃ x, x = (tkz ts i).1.kind := ⟨_, rfl⟩
  obtain ⟨fn, hfn⟩ : ∃ x, x = (tkz ts i).1.fn := ⟨_, rfl⟩
  obtain ⟨nm, hnm⟩ : ∃ x, x = (tkz ts i).1.num := ⟨_, rfl⟩
  obtain ⟨tx, htx⟩ : ∃ x : ByteArray, x = ⟨(tkz ts i).1.text.toArray⟩ := ⟨_, rfl⟩
  obtain ⟨at2, hat⟩ : ∃ x, x = (tkz ts i).2 := ⟨_, rfl⟩
  have HV : Hid (tkV (tkz ts i) = .agg #[.int .i64 kd, .int .i64 fn, .int .i64 nm, .string tx, .int .i64 at2]) := by rw [hkd, hfn, hnm, htx, hat]; rfl
  rw [← hkd] at k0
  rw [← hfn] at k1
  rw [← hnm] at k2
  unfold TkA.s at k3
  rw [← htx] at k3
  rw [← hat] at k4
  clear hkd hfn hnm htx hat
  have c0 := HR2.out.c0
  have c1 := HR2.out.c1
  have f0 := HK2.out.fr 0
  have d0 := HK2.out.c0
  have f1 := HK2.out.fr 1
  have d1 := HK2.out.c1
  have f2 := HK2.out.fr 2
  have d2 := HK2.out.c2
  have f3 := HK2.out.fr 3
  have d3 := HK2.out.c3
  have f4 := HK2.out.fr 4
  have d4 := HK2.out.c4
  go_region
  go_wp2_with fail
  have F : Tbx (((((W2.setCell ⟨w.heap.size, 0, none⟩ (.int .i64 kd)).setCell ⟨w.heap.size, 1, none⟩ (.int .i64 fn)).setCell ⟨w.heap.size, 2, none⟩ (.int .i64 nm)).setCell ⟨w.heap.size, 3, none⟩ (.string tx)).setCell ⟨w.heap.size, 4, none⟩ (.int .i64 at2)).drew w.heap.size (.int .i64 kd) (.int .i64 fn) (.int .i64 nm) (.string tx) (.int .i64 at2) := HK2.out.set5 _ _ _ _ _
  have q0 := F.c0
  have q1 := F.c1
  have q2 := F.c2
  have q3 := F.c3
  have q4 := F.c4
  exact bodyPost_ret (v := .agg #[.int .i64 kd, .int .i64 fn, .int .i64 nm, .string tx, .int .i64 at2]) (by simp [results, Tryz.results41, go_sem, q0, q1, q2, q3, q4]) rfl ⟨by rw [HV.out], by rw [Int.natCast_add]; exact HR2.out.set5 (by omega) _ _ _ _ _, (exc_set5 HE2.out (Nat.le_refl _) _ _ _ _ _).drew⟩
set_option maxRecDepth 100000 in
set_option maxHeartbeats 4000000 in
theorem sgn_any18 (k : Int) (w : World) :
    Calls Tryz.prog 60 #[.int .i64 k] w fun e w' => e = .returned (.agg #[.int .i64 k, .int .i64 0, .int .i64 0, .string ⟨#[]⟩, .int .i64 0]) ∧ Below w.heap.size w w' := by
  go_enter Tryz.func60, Tryz.ntmps60
  go_wp2_with fail
  exact bodyPost_ret (v := .agg #[.int .i64 k, .int .i64 0, .int .i64 0, .string ⟨#[]⟩, .int .i64 0]) (by simp [results, Tryz.results60, go_sem]) rfl ⟨rfl, (Below.refl _ w).alloc (Nat.le_refl _) _⟩
set_option maxRecDepth 100000 in
set_option maxHeartbeats 4000000 in
theorem glyph_any18 (k : Int) (w : World) :
    Calls Tryz.prog 134 #[.int .i64 k] w fun e w' => e = .returned (.agg #[.int .i64 4, .int .i64 k, .int .i64 0, .string ⟨#[]⟩, .int .i64 0]) ∧ Below w.heap.size w w' := by
  go_enter Tryz.func134, Tryz.ntmps134
  go_wp2_with fail
  exact bodyPost_ret (v := .agg #[.int .i64 4, .int .i64 k, .int .i64 0, .string ⟨#[]⟩, .int .i64 0]) (by simp [results, Tryz.results134, go_sem]) rfl ⟨rfl, (Below.refl _ w).alloc (Nat.le_refl _) _⟩
set_option maxRecDepth 100000 in
set_option maxHeartbeats 4000000 in
/-- Is the next word one with which a function begins? -/
theorem isfn_any (rb : Nat) (a : Option Addr) (cap : Nat) (ts : List TkA) (hl : ts.length ≤ 1000) (i : Nat) (hi : i ≤ ts.length) (dp : Int) (wr : Bool) (w : World) (hR : Rdr w rb (.slice a ts.length cap) (i : Nat) dp wr) (hT : IsTk rb w a ts) :
    Calls Tryz.prog 84 #[.pointer (some ⟨rb, 0, none⟩)] w fun e w' => e = .returned (.bool (fnK (kdV ts i dp wr))) ∧ ∃ m, w' = w.drewN m := by
  have hc := kind_any rb a cap ts hl i hi dp wr w hR hT
  generalize kdV ts i dp wr = k at *
  clear hR hT
  by_cases h4 : k = 4
  · subst h4
    go_enter Tryz.func84, Tryz.ntmps84
    go_wp2_with fail
    refine hc.mono ?_
    rintro e w' ⟨rfl, m, rfl⟩
    go_wp2_with fail
    go_ret
    exact ⟨rfl, m, rfl⟩
  have e4 : (k == 4) = false := by simpa using h4
  by_cases h11 : k = 11
  · subst h11
    go_enter Tryz.func84, Tryz.ntmps84
    go_wp2_with fail
    refine hc.mono ?_
    rintro e w' ⟨rfl, m, rfl⟩
    go_wp2_with fail
    go_ret
    exact ⟨rfl, m, rfl⟩
  have e11 : (k == 11) = false := by simpa using h11
  by_cases h20 : k = 20
  · subst h20
    go_enter Tryz.func84, Tryz.ntmps84
    go_wp2_with fail
    refine hc.mono ?_
    rintro e w' ⟨rfl, m, rfl⟩
    go_wp2_with fail
    go_ret
    exact ⟨rfl, m, rfl⟩
  have e20 : (k == 20) = false := by simpa using h20
  by_cases h14 : k = 14
  · subst h14
    go_enter Tryz.func84, Tryz.ntmps84
    go_wp2_with fail
    refine hc.mono ?_
    rintro e w' ⟨rfl, m, rfl⟩
    go_wp2_with fail
    go_ret
    exact ⟨rfl, m, rfl⟩
  have e14 : (k == 14) = false := by simpa using h14
  have hf : Hid (false = fnK k) := by show _ = _; simp [fnK, h4, h11, h20, h14]
  clear h4 h11 h20 h14
  go_enter Tryz.func84, Tryz.ntmps84
  go_wp2_with fail
  refine hc.mono ?_
  rintro e w' ⟨rfl, m, rfl⟩
  go_wp2_with fail
  go_ret
  exact ⟨ret_bool hf.out, m, rfl⟩
end Go.Proofs.YtgjgbgllhbdodaaGreatDoor
