/-
  The reader of words: numbers.
-/
import Derived.Test.YtgjgbgllhbdodaaGreatDoorTpd
namespace Go.Proofs.YtgjgbgllhbdodaaGreatDoor
open Go.RowKit Go.Lib
set_option linter.unusedVariables false

theorem Tryz.infoInt18 : (Tryz.prog.info? 3).map (fun i => (i.zero, i.size, i.bytes)) = some (some (.int .i64 0), 1, 8) := by kernel_rfl
theorem Tryz.infoPart : (Tryz.prog.info? 58).map (fun i => (i.zero, i.size, i.bytes)) = some (some .nilIface, 1, 16) := by kernel_rfl
/-- The words from one on. -/
def lx (ts : List TkA) (i : Nat) : List Tk := (ts.drop i).map Prod.fst
theorem lx_end (ts : List TkA) {i : Nat} (h : ts.length ≤ i) : lx ts i = [] := by unfold lx; rw [List.drop_eq_nil_of_le h]; rfl
theorem lx_at (ts : List TkA) {i : Nat} (h : i < ts.length) : lx ts i = (tkz ts i).1 :: lx ts (i + 1) := by
  unfold lx
  rw [List.drop_eq_getElem_cons h, List.map_cons]
  unfold tkz
  rw [List.getD_eq_getElem?_getD, List.getElem?_eq_getElem h]
  rfl
theorem lx_len (ts : List TkA) (i : Nat) : (lx ts i).length = ts.length - i := by unfold lx; simp
/-- How many words the reader has read. -/
def atOf (rb : Nat) (w : World) : Nat := (RowKit.intOf ((w.cell? ⟨rb, 1, none⟩).getD .nilIface)).toNat
theorem atOf_is {rb : Nat} {w : World} {v : Value} {i : Nat} {dp : Int} {wr : Bool} (h : Rdr w rb v (i : Int) dp wr) : atOf rb w = i := by unfold atOf; rw [h.c1]; rfl
theorem Rdr.grow {w w' : World} {rb : Nat} {v : Value} {i dp : Int} {wr : Bool} {row : Option Nat} (h : Rdr w rb v i dp wr) (hg : w.grownBy w' row) (hr : ∀ k, row = some k → rb < k) : Rdr w' rb v i dp wr :=
  (hg.block rb h.lt (fun e => by have := hr rb e.symm; omega)).trans h
theorem kdV_one {ts : List TkA} {i : Nat} {dp : Int} {wr : Bool} (h : i < ts.length) (hw : wr = false) (hk : (tkz ts i).1.kind ≠ 18 ∧ (tkz ts i).1.kind ≠ 19 ∧ (tkz ts i).1.kind ≠ 20) : kdV ts i dp wr = (tkz ts i).1.kind := by
  unfold kdV
  rw [if_neg, if_neg]
  · rintro ⟨h1 | h1 | h1, _⟩
    · exact hk.1 h1
    · exact hk.2.1 h1
    · exact hk.2.2 h1
  · rintro (h1 | h1)
    · rw [hw] at h1; cases h1
    · omega
theorem own_num {w : World} {base : Nat} {v : Value} {zs : List Int} (h : w.ownsRow base 3 1 v zs.length (zs.map (Value.int .i64))) : ∃ a c, v = .slice a zs.length c ∧ NumX (fun k => base ≤ k) w a zs := by
  rcases h.2 with ⟨rfl, h0⟩ | ⟨g, cap, cur, rfl, h1, hg, h2, _, h3, h4⟩
  · have : zs = [] := List.eq_nil_of_length_eq_zero h0
    subst this
    exact ⟨none, 0, rfl, .inl rfl⟩
  · refine ⟨_, _, rfl, .inr ⟨g, 0, rfl, (Array.getElem?_eq_some_iff.1 hg).1, h1, fun j hj => ?_⟩⟩
    have : cur.toList[j]? = some (.int .i64 (nth zs j)) := by
      have h5 := congrArg (fun l => l[j]?) h4
      simp only [List.getElem?_take, Nat.mul_one] at h5
      rw [if_pos hj, List.getElem?_map, List.getElem?_eq_getElem hj] at h5
      rw [h5, nth_get zs j hj]; rfl
    simp only [World.cell?, hg]
    simpa using this
theorem fld_fn (k f n : Int) (t : ByteArray) (a : Int) (w : World) : (Instr.field 30 (.agg #[.int .i64 k, .int .i64 f, .int .i64 n, .string t, .int .i64 a]) 1).run Tryz.prog w = .ok (.int .i64 f) w := by kernel_rfl
theorem fld_num (k f n : Int) (t : ByteArray) (a : Int) (w : World) : (Instr.field 30 (.agg #[.int .i64 k, .int .i64 f, .int .i64 n, .string t, .int .i64 a]) 2).run Tryz.prog w = .ok (.int .i64 n) w := by kernel_rfl
theorem fld_text (k f n : Int) (t : ByteArray) (a : Int) (w : World) : (Instr.field 30 (.agg #[.int .i64 k, .int .i64 f, .int .i64 n, .string t, .int .i64 a]) 3).run Tryz.prog w = .ok (.string t) w := by kernel_rfl
theorem ret_slice18 {a : Option Addr} {n m c : Nat} (h : n = m) : Ending.returned (.slice a n c) = .returned (.slice a m c) := by rw [h]
def NsP (rb : Nat) (v : Value) (ts : List TkA) (i : Nat) (dp : Int) (w : World) (e : Ending) (w' : World) : Prop :=
  ∃ a c j, e = .returned (.slice a (nmP (lx ts i)).1.length c) ∧ j ≤ ts.length ∧ (nmP (lx ts i)).2 = lx ts j ∧ Rdr w' rb v (j : Nat) dp false ∧ Exc rb w w' ∧ NumX (fun k => w.heap.size ≤ k) w' a (nmP (lx ts i)).1
set_option maxRecDepth 100000 in
set_option maxHeartbeats 4000000 in
theorem numbers_any (rb : Nat) (a : Option Addr) (cap : Nat) (ts : List TkA) (hl : ts.length ≤ 1000) (i : Nat) (hi : i ≤ ts.length) (dp : Int) (w : World) (hR : Rdr w rb (.slice a ts.length cap) (i : Nat) dp false) (hT : IsTk rb w a ts) :
    Calls Tryz.prog 148 #[.pointer (some ⟨rb, 0, none⟩)] w (NsP rb (.slice a ts.length cap) ts i dp w) := by
  have HR : Hid (Rdr w rb (.slice a ts.length cap) (i : Nat) dp false) := hR
  have HT : Hid (IsTk rb w a ts) := hT
  have hbs : rb < w.heap.size := hR.lt
  clear hR hT
  go_enter Tryz.func148, Tryz.ntmps148
  go_wp2_with fail
  go_loopw [3] (fun v wr => ∃ (j : Nat) (zs : List Int) (ga : Option Addr) (gc : Nat), v = .slice ga zs.length gc ∧ Hid (j ≤ ts.length ∧ (nmP (lx ts i)).1 = zs ++ (nmP (lx ts j)).1 ∧ (nmP (lx ts i)).2 = (nmP (lx ts j)).2 ∧ zs.length ≤ j) ∧ Hid (Rdr wr rb (.slice a ts.length cap) (j : Nat) dp false) ∧ Hid (wr.ownsRow w.heap.size 3 1 (.slice ga zs.length gc) zs.length (zs.map (Value.int .i64))) ∧ Hid (Exc rb w wr)) (fun _ wr => ts.length - atOf rb wr)
  case atStart => exact ⟨i, [], none, 0, rfl, ⟨hi, rfl, rfl, Nat.zero_le _⟩, HR, World.ownsRow_nil _ _ _ _, Exc.refl _ _⟩
  case round =>
    obtain ⟨j, zs, ga, gc, rfl, HI, HR1, HO, HE⟩ := hrel
    have HT1 : Hid (IsTk rb wr a ts) := HT.out.go (HE.out.below (by omega))
    have hc := kind_any rb a cap ts hl j HI.out.1 dp false wr HR1.out HT1.out
    by_cases hk : kdV ts j dp false = 1
    · obtain ⟨_, hlt, hkd⟩ := kdV_pos HI.out.1 (by rw [hk]; decide)
      have hm : Hid (ts.length - (j + 1) < ts.length - j) := by show _ < _; omega
      have HL : Hid (lx ts j = (tkz ts j).1 :: lx ts (j + 1) ∧ (tkz ts j).1.kind = 1 ∧ j + 1 ≤ ts.length) := ⟨lx_at ts hlt, by rw [← hkd]; exact hk, hlt⟩
      have hn := fun W h1 h2 => next_yes 1 rb a cap ts hl j HI.out.1 dp false hk (by decide) W h1 h2
      rw [hk] at hc
      clear hkd hk hlt
      go_wp2_with fail
      refine hc.mono ?_
      rintro e w1 ⟨rfl, m, rfl⟩
      go_wp2_with fail
      refine (hn _ (HR1.out.drN m) HT1.out).mono ?_
      rintro e w2 ⟨rfl, hR2, hE2⟩
      have HR2 : Hid (Rdr w2 rb (.slice a ts.length cap) ((j + 1 : Nat) : Int) dp false) := hR2
      have HE2 : Hid (Exc rb w w2) := HE.out.trans (((Exc.refl rb wr).drewN m).trans hE2)
      have HO2 : Hid (w2.ownsRow w.heap.size 3 1 (.slice ga zs.length gc) zs.length (zs.map (Value.int .i64))) := by
        show _ ∧ _
        exact ⟨HO.out.1, HO.out.2.elim .inl fun ⟨g, cap', cur, ev, h1, hg, h2⟩ => .inr ⟨g, cap', cur, ev, h1, ((Exc.refl rb wr).drewN m |>.trans hE2).block g (Array.getElem?_eq_some_iff.1 hg).1 (by omega) |>.trans hg, h2⟩⟩
      clear hR2 hE2
      have hzn : zs.length ≤ 1000000 := by have := HI.out.1; have := HI.out.2.2.2; omega
      have hbw : w.heap.size ≤ w2.heap.size := HE2.out.size
      simp only [tkV, TkA.s]
      have hfld := fld_num (tkz ts j).1.kind (tkz ts j).1.fn (tkz ts j).1.num ⟨(tkz ts j).1.text.toArray⟩ (tkz ts j).2
      go_wp2_with (at_builtin; refine app_one 109 3 (.int .i64 0) 8 Tryz.underlying109 Tryz.infoInt18 rfl (by decide) rfl _ _ rfl w2 (.int .i64 (tkz ts j).1.num) rfl w.heap.size (.slice ga zs.length gc) zs.length (zs.map (Value.int .i64)) rfl rfl HO2.out hzn hbw ?_; intro g2 gc2 w3 hO3 hg3 hgb3 hl3)
      have HR3 := HR2.out.grow hg3 (fun k hk => by have := own_lo HO2.out k hk; omega)
      refine ⟨⟨j + 1, zs ++ [(tkz ts j).1.num], some ⟨g2, 0, none⟩, gc2, by rw [List.length_append]; rfl, ⟨HL.out.2.2, ?_, ?_, ?_⟩, HR3, ?_, HE2.out.grown hg3 (fun k hk => (own_lo HO2.out k hk).1)⟩, ?_⟩
      · rw [HI.out.2.1, HL.out.1, nmP, if_pos HL.out.2.1, List.append_assoc]; rfl
      · rw [HI.out.2.2.1, HL.out.1]; show (if _ then _ else _ : List Int × List Tk).2 = _; rw [if_pos HL.out.2.1]
      · have := HI.out.2.2.2; rw [List.length_append, List.length_singleton]; omega
      · show World.ownsRow _ _ _ _ _ _ _; rw [List.length_append, List.map_append]; exact hO3
      · rw [atOf_is HR3, atOf_is HR1.out]; exact hm.out
    · have HK : Hid ((nmP (lx ts j)).1 = [] ∧ (nmP (lx ts j)).2 = lx ts j) := by
        show _ ∧ _
        by_cases hlt : j < ts.length
        · rw [lx_at ts hlt]
          have : ¬ (tkz ts j).1.kind = 1 := fun e => hk (by rw [kdV_one hlt rfl (by omega)]; exact e)
          simp only [nmP, if_neg this]
          exact ⟨trivial, trivial⟩
        · rw [lx_end ts (by omega)]; exact ⟨rfl, rfl⟩
      have hne : (kdV ts j dp false == 1) = false := by simpa using hk
      generalize kdV ts j dp false = kd at *
      clear hk
      obtain ⟨ga', gc', ev, hN⟩ := own_num HO.out
      injection ev with e1 e2 e3
      subst e1 e3
      have HZ : Hid ((nmP (lx ts i)).1 = zs ∧ (nmP (lx ts i)).2 = lx ts j) := ⟨by rw [HI.out.2.1, HK.out.1, List.append_nil], by rw [HI.out.2.2.1, HK.out.2]⟩
      have HN : Hid (NumX (fun k => w.heap.size ≤ k) wr ga zs) := hN
      clear hN e2
      go_wp2_with fail
      refine hc.mono ?_
      rintro e w1 ⟨rfl, m, rfl⟩
      go_wp2_with fail
      go_ret
      exact ⟨ga, gc, j, ret_slice18 (by rw [HZ.out.1]), HI.out.1, HZ.out.2, HR1.out.drN m, HE.out.drewN m, by rw [HZ.out.1]; exact HN.out⟩
end Go.Proofs.YtgjgbgllhbdodaaGreatDoor
