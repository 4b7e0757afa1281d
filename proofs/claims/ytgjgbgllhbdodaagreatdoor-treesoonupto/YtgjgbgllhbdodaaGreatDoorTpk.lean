/-
  The reader of words: an atom.
-/
import Derived.Test.YtgjgbgllhbdodaaGreatDoorTpj
namespace Go.Proofs.YtgjgbgllhbdodaaGreatDoor
open Go.RowKit Go.Lib
set_option linter.unusedVariables false

theorem nm_len : ∀ l : List Tk, (nmP l).2.length ≤ l.length
  | [] => Nat.le_refl _
  | t :: r => by
    unfold nmP
    split
    · have := nm_len r; simp only [List.length_cons]; omega
    · exact Nat.le_refl _
/-- What is told where a part was read. -/
def PtA (rb : Nat) (a : Option Addr) (cap : Nat) (ts : List TkA) (i : Nat) (dp : Int) (ns : List Nod) (w : World) (e : Ending) (w' : World) : Prop :=
  ∃ (v : Value), e = .returned v ∧ v.oneCell' = true ∧ Exc rb w w' ∧ Rdr w' rb (.slice a ts.length cap) ((i + 1 : Nat) : Int) dp false ∧ i + 1 ≤ ts.length ∧ PartW (fun k => w.heap.size ≤ k) w' v ns
set_option maxRecDepth 100000 in
set_option maxHeartbeats 8000000 in
theorem at_num (rb : Nat) (a : Option Addr) (cap : Nat) (ts : List TkA) (hl : ts.length ≤ 1000) (i : Nat) (hi : i ≤ ts.length) (dp : Int) (wr : Bool) (hk : kdV ts i dp wr = 1) (hw : wr = false)
    (w : World) (hR : Rdr w rb (.slice a ts.length cap) (i : Nat) dp wr) (hT : IsTk rb w a ts) :
    Calls Tryz.prog 126 #[.pointer (some ⟨rb, 0, none⟩)] w (fun e w' => ∃ (v : Value) (j : Nat), e = .returned v ∧ v.oneCell' = true ∧ Exc rb w w' ∧ Rdr w' rb (.slice a ts.length cap) (j : Int) dp false ∧ j ≤ ts.length ∧ (nmP (lx ts i)).2 = lx ts j ∧ PartW (fun k => w.heap.size ≤ k) w' v [⟨1, ac0, 0, (nmP (lx ts i)).1, []⟩]) := by
  subst hw
  have hc := fun W h1 h2 => kind_any rb a cap ts hl i hi dp false W h1 h2
  have hn := fun W h1 h2 => numbers_any rb a cap ts hl i hi dp W h1 h2
  have HR : Hid (Rdr w rb (.slice a ts.length cap) (i : Nat) dp false) := hR
  have HT : Hid (IsTk rb w a ts) := hT
  have hbs : rb < w.heap.size := hR.lt
  rw [hk] at hc
  clear hR hT hk
  go_enter Tryz.func126, Tryz.ntmps126
  go_wp2_with fail
  refine (hc w HR.out HT.out).mono ?_
  rintro e w1 ⟨rfl, m, rfl⟩
  have HE1 : Hid (Exc rb w (w.drewN m)) := (Exc.refl rb w).drewN m
  have HR1 : Hid (Rdr (w.drewN m) rb (.slice a ts.length cap) (i : Nat) dp false) := HR.out
  have HT1 : Hid (IsTk rb (w.drewN m) a ts) := HT.out
  have hz1 : w.heap.size ≤ (w.drewN m).heap.size := HE1.out.size
  generalize w.drewN m = w1 at *
  clear hc
  go_wp2_with fail
  refine (hn w1 HR1.out HT1.out).mono ?_
  rintro e w2 ⟨sa, sc, j, rfl, hj, hr, hR2, hE2, hN⟩
  have HF : Hid (j ≤ ts.length ∧ (nmP (lx ts i)).2 = lx ts j ∧ Rdr w2 rb (.slice a ts.length cap) (j : Int) dp false ∧ Exc rb w w2 ∧ NumX (fun k => w.heap.size ≤ k) w2 sa (nmP (lx ts i)).1) := ⟨hj, hr, hR2, HE1.out.trans hE2, hN.mono fun k _ hk => by omega⟩
  clear hj hr hR2 hE2 hN hn
  go_wp2_with fail
  go_ret
  exact ⟨_, j, rfl, rfl, HF.out.2.2.2.1, HF.out.2.2.1, HF.out.1, HF.out.2.1, pw_num sc _ rfl HF.out.2.2.2.2⟩
set_option maxRecDepth 100000 in
set_option maxHeartbeats 8000000 in
theorem at_text (rb : Nat) (a : Option Addr) (cap : Nat) (ts : List TkA) (hl : ts.length ≤ 1000) (i : Nat) (hi : i ≤ ts.length) (dp : Int) (wr : Bool) (hk : kdV ts i dp wr = 2) (hw : wr = false)
    (w : World) (hR : Rdr w rb (.slice a ts.length cap) (i : Nat) dp wr) (hT : IsTk rb w a ts) :
    Calls Tryz.prog 126 #[.pointer (some ⟨rb, 0, none⟩)] w (PtA rb a cap ts i dp [⟨2, ac0, 0, [], (tkz ts i).1.text⟩] w) := by
  subst hw
  have hc := fun W h1 h2 => kind_any rb a cap ts hl i hi dp false W h1 h2
  have hn := fun W h1 h2 => next_yes 2 rb a cap ts hl i hi dp false hk (by decide) W h1 h2
  have hlt : i + 1 ≤ ts.length := (kdV_pos hi (by rw [hk]; decide)).2.1
  have HR : Hid (Rdr w rb (.slice a ts.length cap) (i : Nat) dp false) := hR
  have HT : Hid (IsTk rb w a ts) := hT
  have hbs : rb < w.heap.size := hR.lt
  rw [hk] at hc
  clear hR hT hk
  go_enter Tryz.func126, Tryz.ntmps126
  go_wp2_with fail
  refine (hc w HR.out HT.out).mono ?_
  rintro e w1 ⟨rfl, m, rfl⟩
  have HE1 : Hid (Exc rb w (w.drewN m)) := (Exc.refl rb w).drewN m
  have HR1 : Hid (Rdr (w.drewN m) rb (.slice a ts.length cap) (i : Nat) dp false) := HR.out
  have HT1 : Hid (IsTk rb (w.drewN m) a ts) := HT.out
  have hz1 : w.heap.size ≤ (w.drewN m).heap.size := HE1.out.size
  generalize w.drewN m = w1 at *
  clear hc
  go_wp2_with fail
  refine (hn w1 HR1.out HT1.out).mono ?_
  rintro e w2 ⟨rfl, hR2, hE2⟩
  have HE2 : Hid (Exc rb w w2) := HE1.out.trans hE2
  have HR2 : Hid (Rdr w2 rb (.slice a ts.length cap) ((i + 1 : Nat) : Int) dp false) := hR2
  clear hE2 hR2 hn
  simp only [tkV, TkA.s]
  have hfld := fld_text (tkz ts i).1.kind (tkz ts i).1.fn (tkz ts i).1.num ⟨(tkz ts i).1.text.toArray⟩ (tkz ts i).2
  go_wp2_with fail
  go_ret
  exact ⟨_, rfl, rfl, HE2.out, HR2.out, hlt, pw_text _⟩
set_option maxRecDepth 100000 in
set_option maxHeartbeats 8000000 in
theorem at_var (rb : Nat) (a : Option Addr) (cap : Nat) (ts : List TkA) (hl : ts.length ≤ 1000) (i : Nat) (hi : i ≤ ts.length) (dp : Int) (wr : Bool) (hk : kdV ts i dp wr = 3) (hw : wr = false)
    (w : World) (hR : Rdr w rb (.slice a ts.length cap) (i : Nat) dp wr) (hT : IsTk rb w a ts) :
    Calls Tryz.prog 126 #[.pointer (some ⟨rb, 0, none⟩)] w (PtA rb a cap ts i dp [⟨3, ac0, 0, [], (tkz ts i).1.text⟩] w) := by
  subst hw
  have hc := fun W h1 h2 => kind_any rb a cap ts hl i hi dp false W h1 h2
  have hn := fun W h1 h2 => next_yes 3 rb a cap ts hl i hi dp false hk (by decide) W h1 h2
  have hlt : i + 1 ≤ ts.length := (kdV_pos hi (by rw [hk]; decide)).2.1
  have HR : Hid (Rdr w rb (.slice a ts.length cap) (i : Nat) dp false) := hR
  have HT : Hid (IsTk rb w a ts) := hT
  have hbs : rb < w.heap.size := hR.lt
  rw [hk] at hc
  clear hR hT hk
  go_enter Tryz.func126, Tryz.ntmps126
  go_wp2_with fail
  refine (hc w HR.out HT.out).mono ?_
  rintro e w1 ⟨rfl, m, rfl⟩
  have HE1 : Hid (Exc rb w (w.drewN m)) := (Exc.refl rb w).drewN m
  have HR1 : Hid (Rdr (w.drewN m) rb (.slice a ts.length cap) (i : Nat) dp false) := HR.out
  have HT1 : Hid (IsTk rb (w.drewN m) a ts) := HT.out
  have hz1 : w.heap.size ≤ (w.drewN m).heap.size := HE1.out.size
  generalize w.drewN m = w1 at *
  clear hc
  go_wp2_with fail
  refine (hn w1 HR1.out HT1.out).mono ?_
  rintro e w2 ⟨rfl, hR2, hE2⟩
  have HE2 : Hid (Exc rb w w2) := HE1.out.trans hE2
  have HR2 : Hid (Rdr w2 rb (.slice a ts.length cap) ((i + 1 : Nat) : Int) dp false) := hR2
  clear hE2 hR2 hn
  simp only [tkV, TkA.s]
  have hfld := fld_text (tkz ts i).1.kind (tkz ts i).1.fn (tkz ts i).1.num ⟨(tkz ts i).1.text.toArray⟩ (tkz ts i).2
  go_wp2_with fail
  go_ret
  exact ⟨_, rfl, rfl, HE2.out, HR2.out, hlt, pw_var _⟩
set_option maxRecDepth 100000 in
set_option maxHeartbeats 8000000 in
theorem at_alpha (rb : Nat) (a : Option Addr) (cap : Nat) (ts : List TkA) (hl : ts.length ≤ 1000) (i : Nat) (hi : i ≤ ts.length) (dp : Int) (wr : Bool) (hk : kdV ts i dp wr = 18) (hw : wr = false)
    (w : World) (hR : Rdr w rb (.slice a ts.length cap) (i : Nat) dp wr) (hT : IsTk rb w a ts) :
    Calls Tryz.prog 126 #[.pointer (some ⟨rb, 0, none⟩)] w (PtA rb a cap ts i dp [⟨4, ac0, 0, [], []⟩] w) := by
  subst hw
  have hc := fun W h1 h2 => kind_any rb a cap ts hl i hi dp false W h1 h2
  have hn := fun W h1 h2 => next_yes 18 rb a cap ts hl i hi dp false hk (by decide) W h1 h2
  have hlt : i + 1 ≤ ts.length := (kdV_pos hi (by rw [hk]; decide)).2.1
  have HR : Hid (Rdr w rb (.slice a ts.length cap) (i : Nat) dp false) := hR
  have HT : Hid (IsTk rb w a ts) := hT
  have hbs : rb < w.heap.size := hR.lt
  rw [hk] at hc
  clear hR hT hk
  go_enter Tryz.func126, Tryz.ntmps126
  go_wp2_with fail
  refine (hc w HR.out HT.out).mono ?_
  rintro e w1 ⟨rfl, m, rfl⟩
  have HE1 : Hid (Exc rb w (w.drewN m)) := (Exc.refl rb w).drewN m
  have HR1 : Hid (Rdr (w.drewN m) rb (.slice a ts.length cap) (i : Nat) dp false) := HR.out
  have HT1 : Hid (IsTk rb (w.drewN m) a ts) := HT.out
  have hz1 : w.heap.size ≤ (w.drewN m).heap.size := HE1.out.size
  generalize w.drewN m = w1 at *
  clear hc
  go_wp2_with fail
  refine (hn w1 HR1.out HT1.out).mono ?_
  rintro e w2 ⟨rfl, hR2, hE2⟩
  have HE2 : Hid (Exc rb w w2) := HE1.out.trans hE2
  have HR2 : Hid (Rdr w2 rb (.slice a ts.length cap) ((i + 1 : Nat) : Int) dp false) := hR2
  clear hE2 hR2 hn
  go_wp2_with fail
  go_ret
  exact ⟨_, rfl, rfl, HE2.out, HR2.out, hlt, pw_alpha⟩
set_option maxRecDepth 100000 in
set_option maxHeartbeats 8000000 in
theorem at_omega (rb : Nat) (a : Option Addr) (cap : Nat) (ts : List TkA) (hl : ts.length ≤ 1000) (i : Nat) (hi : i ≤ ts.length) (dp : Int) (wr : Bool) (hk : kdV ts i dp wr = 19) (hw : wr = false)
    (w : World) (hR : Rdr w rb (.slice a ts.length cap) (i : Nat) dp wr) (hT : IsTk rb w a ts) :
    Calls Tryz.prog 126 #[.pointer (some ⟨rb, 0, none⟩)] w (PtA rb a cap ts i dp [⟨5, ac0, 0, [], []⟩] w) := by
  subst hw
  have hc := fun W h1 h2 => kind_any rb a cap ts hl i hi dp false W h1 h2
  have hn := fun W h1 h2 => next_yes 19 rb a cap ts hl i hi dp false hk (by decide) W h1 h2
  have hlt : i + 1 ≤ ts.length := (kdV_pos hi (by rw [hk]; decide)).2.1
  have HR : Hid (Rdr w rb (.slice a ts.length cap) (i : Nat) dp false) := hR
  have HT : Hid (IsTk rb w a ts) := hT
  have hbs : rb < w.heap.size := hR.lt
  rw [hk] at hc
  clear hR hT hk
  go_enter Tryz.func126, Tryz.ntmps126
  go_wp2_with fail
  refine (hc w HR.out HT.out).mono ?_
  rintro e w1 ⟨rfl, m, rfl⟩
  have HE1 : Hid (Exc rb w (w.drewN m)) := (Exc.refl rb w).drewN m
  have HR1 : Hid (Rdr (w.drewN m) rb (.slice a ts.length cap) (i : Nat) dp false) := HR.out
  have HT1 : Hid (IsTk rb (w.drewN m) a ts) := HT.out
  have hz1 : w.heap.size ≤ (w.drewN m).heap.size := HE1.out.size
  generalize w.drewN m = w1 at *
  clear hc
  go_wp2_with fail
  refine (hn w1 HR1.out HT1.out).mono ?_
  rintro e w2 ⟨rfl, hR2, hE2⟩
  have HE2 : Hid (Exc rb w w2) := HE1.out.trans hE2
  have HR2 : Hid (Rdr w2 rb (.slice a ts.length cap) ((i + 1 : Nat) : Int) dp false) := hR2
  clear hE2 hR2 hn
  go_wp2_with fail
  go_ret
  exact ⟨_, rfl, rfl, HE2.out, HR2.out, hlt, pw_omega⟩
set_option maxRecDepth 100000 in
set_option maxHeartbeats 8000000 in
theorem at_left (rb : Nat) (a : Option Addr) (cap : Nat) (ts : List TkA) (hl : ts.length ≤ 1000) (i : Nat) (hi : i ≤ ts.length) (dp : Int) (wr : Bool) (hk : kdV ts i dp wr = 5) (hw : wr = false) (E : Bool → List Tk → Rp) (F : Nat) (hE : EcP rb a cap ts E F) (h0 : 0 ≤ dp) (hdp : dp ≤ i) (hF : ts.length - i ≤ F)
    (w : World) (hR : Rdr w rb (.slice a ts.length cap) (i : Nat) dp wr) (hT : IsTk rb w a ts) :
    Calls Tryz.prog 126 #[.pointer (some ⟨rb, 0, none⟩)] w (fun e w' => ∃ (v : Value) (j2 : Nat) (wr2 : Bool) (j : Nat) (wr' : Bool) (w1 w2 : World), e = .returned v ∧ v.oneCell' = true ∧ Exc rb w w' ∧ Rdr w' rb (.slice a ts.length cap) (j : Int) dp wr' ∧ i + 1 ≤ j2 ∧ j2 ≤ j ∧ j ≤ ts.length ∧ w.heap.size ≤ w1.heap.size ∧ Exc rb w2 w' ∧ ExL ts w1.heap.size w2 v dp (i + 1) j2 wr2 (E (decide (0 < dp)) (lx ts (i + 1))) ∧ NxO ts j2 dp wr2 6 j wr') := by
  subst hw
  have hc := fun W h1 h2 => kind_any rb a cap ts hl i hi dp false W h1 h2
  have hn := fun W h1 h2 => next_yes 5 rb a cap ts hl i hi dp false hk (by decide) W h1 h2
  have hlt : i + 1 ≤ ts.length := (kdV_pos hi (by rw [hk]; decide)).2.1
  have HX : Hid (EcP rb a cap ts E F) := hE
  have HR : Hid (Rdr w rb (.slice a ts.length cap) (i : Nat) dp false) := hR
  have HT : Hid (IsTk rb w a ts) := hT
  have hbs : rb < w.heap.size := hR.lt
  rw [hk] at hc
  clear hR hT hk hE
  go_enter Tryz.func126, Tryz.ntmps126
  go_wp2_with fail
  refine (hc w HR.out HT.out).mono ?_
  rintro e w1 ⟨rfl, m, rfl⟩
  have HE1 : Hid (Exc rb w (w.drewN m)) := (Exc.refl rb w).drewN m
  have HR1 : Hid (Rdr (w.drewN m) rb (.slice a ts.length cap) (i : Nat) dp false) := HR.out
  have HT1 : Hid (IsTk rb (w.drewN m) a ts) := HT.out
  have hz1 : w.heap.size ≤ (w.drewN m).heap.size := HE1.out.size
  generalize w.drewN m = w1 at *
  clear hc
  go_wp2_with fail
  refine (hn w1 HR1.out HT1.out).mono ?_
  rintro e w2 ⟨rfl, hR2, hE2⟩
  have HE2 : Hid (Exc rb w w2) := HE1.out.trans hE2
  have HR2 : Hid (Rdr w2 rb (.slice a ts.length cap) ((i + 1 : Nat) : Int) dp false) := hR2
  clear hE2 hR2 hn
  go_wp2_with fail
  refine (HX.out (i + 1) dp false w2 hlt h0 (by omega) (by omega) HR2.out (HT.out.go (HE2.out.below (by omega)))).mono ?_
  rintro e w3 ⟨v, j2, wr2, rfl, hv, hE3, hR3, hij2, hj2, hL2, _⟩
  have HE3 : Hid (Exc rb w w3) := HE2.out.trans hE3
  have HR3 : Hid (Rdr w3 rb (.slice a ts.length cap) (j2 : Int) dp wr2) := hR3
  have HL2 : Hid (ExL ts w2.heap.size w3 v dp (i + 1) j2 wr2 (E (decide (0 < dp)) (lx ts (i + 1)))) := hL2 rfl
  clear hE3 hR3 hL2
  go_wp2_with fail
  refine (next_any18 6 (by decide) rb a cap ts hl j2 hj2 dp wr2 w3 HR3.out (HT.out.go (HE3.out.below (by omega)))).mono ?_
  rintro e w4 ⟨x0, x1, x2, tx, x4, j, wr', rfl, hR4, hE4, hj2a, hj, hN, _⟩
  have HF : Hid (Exc rb w w4 ∧ Rdr w4 rb (.slice a ts.length cap) (j : Int) dp wr' ∧ Exc rb w3 w4 ∧ NxO ts j2 dp wr2 6 j wr') := ⟨HE3.out.trans hE4, hR4, hE4, hN⟩
  clear hE4 hR4 hN
  go_wp2_with fail
  go_ret
  exact ⟨v, j2, wr2, j, wr', w2, w3, rfl, hv, HF.out.1, HF.out.2.1, hij2, hj2a, hj, HE2.out.size, HF.out.2.2.1, HL2.out, HF.out.2.2.2⟩
set_option maxRecDepth 100000 in
set_option maxHeartbeats 8000000 in
theorem at_bad (rb : Nat) (a : Option Addr) (cap : Nat) (ts : List TkA) (hl : ts.length ≤ 1000) (i : Nat) (hi : i ≤ ts.length) (dp : Int) (wr : Bool) (h1 : kdV ts i dp wr ≠ 1) (h2 : kdV ts i dp wr ≠ 2) (h3 : kdV ts i dp wr ≠ 3) (h18 : kdV ts i dp wr ≠ 18) (h19 : kdV ts i dp wr ≠ 19) (h5 : kdV ts i dp wr ≠ 5)
    (w : World) (hR : Rdr w rb (.slice a ts.length cap) (i : Nat) dp wr) (hT : IsTk rb w a ts) :
    Calls Tryz.prog 126 #[.pointer (some ⟨rb, 0, none⟩)] w (fun e w' => e = .returned .nilIface ∧ Exc rb w w' ∧ Rdr w' rb (.slice a ts.length cap) (i : Int) dp true) := by
  have hc := fun W h1 h2 => kind_any rb a cap ts hl i hi dp wr W h1 h2
  have e1 : (kdV ts i dp wr == 1) = false := by simpa using h1
  have e2 : (kdV ts i dp wr == 2) = false := by simpa using h2
  have e3 : (kdV ts i dp wr == 3) = false := by simpa using h3
  have e18 : (kdV ts i dp wr == 18) = false := by simpa using h18
  have e19 : (kdV ts i dp wr == 19) = false := by simpa using h19
  have e5 : (kdV ts i dp wr == 5) = false := by simpa using h5
  have HR : Hid (Rdr w rb (.slice a ts.length cap) (i : Nat) dp wr) := hR
  have HT : Hid (IsTk rb w a ts) := hT
  have hbs : rb < w.heap.size := hR.lt
  generalize kdV ts i dp wr = kd at *
  clear hR hT h1 h2 h3 h18 h19 h5
  go_enter Tryz.func126, Tryz.ntmps126
  go_wp2_with fail
  refine (hc w HR.out HT.out).mono ?_
  rintro e w1 ⟨rfl, m, rfl⟩
  have HE1 : Hid (Exc rb w (w.drewN m)) := (Exc.refl rb w).drewN m
  have HR1 : Hid (Rdr (w.drewN m) rb (.slice a ts.length cap) (i : Nat) dp wr) := HR.out
  have HT1 : Hid (IsTk rb (w.drewN m) a ts) := HT.out
  have hz1 : w.heap.size ≤ (w.drewN m).heap.size := HE1.out.size
  generalize w.drewN m = w1 at *
  clear hc
  have c3 := HR1.out.c3
  have f3 := HR1.out.fr 3
  go_wp2_with fail
  go_ret
  exact ⟨rfl, HE1.out.setCell (p := ⟨rb, 3, none⟩) rfl _, HR1.out.s3 true⟩
/-- What reading an atom tells. -/
theorem atom_any (rb : Nat) (a : Option Addr) (cap : Nat) (ts : List TkA) (hl : ts.length ≤ 1000) (E : Bool → List Tk → Rp) (F : Nat) (hE : EcP rb a cap ts E F) (i : Nat) (hi : i ≤ ts.length) (dp : Int) (wr : Bool) (h0 : 0 ≤ dp) (hdp : dp ≤ i) (hF : ts.length - i ≤ F)
    (w : World) (hR : Rdr w rb (.slice a ts.length cap) (i : Nat) dp wr) (hT : IsTk rb w a ts) :
    Calls Tryz.prog 126 #[.pointer (some ⟨rb, 0, none⟩)] w (ExA rb a cap ts (atP (E (decide (0 < dp))) (decide (0 < dp)) (lx ts i)) i dp wr w) := by
  by_cases hz : kdV ts i dp wr = 1 ∨ kdV ts i dp wr = 2 ∨ kdV ts i dp wr = 3 ∨ kdV ts i dp wr = 18 ∨ kdV ts i dp wr = 19 ∨ kdV ts i dp wr = 5
  · obtain ⟨hw, hlt, hkd⟩ := kdV_pos hi (show kdV ts i dp wr ≠ 0 by omega)
    have hn0 : kdV ts i dp wr ≠ 0 := by omega
    have hd : kdV ts i dp wr = 18 ∨ kdV ts i dp wr = 19 → decide (0 < dp) = true := by
      intro h
      have : dp ≠ 0 := by
        rintro rfl
        have hkd' : (tkz ts i).1.kind = 18 ∨ (tkz ts i).1.kind = 19 := by rw [← hkd]; exact h
        rw [hw] at hn0
        unfold kdV at hn0
        rw [if_neg (by simp; omega), if_pos ⟨by omega, rfl⟩] at hn0
        exact hn0 rfl
      exact decide_eq_true (by omega)
    rw [lx_at ts hlt]
    simp only [atP]
    rcases hz with h | h | h | h | h | h
    · rw [if_pos (by rw [← hkd, h])]
      refine (at_num rb a cap ts hl i hi dp wr h hw w hR hT).mono ?_
      rintro e w' ⟨v, j, rfl, hv, hE', hR', hj, hr, hP⟩
      rw [lx_at ts hlt] at hr hP
      simp only [nmP, if_pos (show (tkz ts i).1.kind = 1 by rw [← hkd, h])] at hr hP
      have hij : i < j := by
        have := nm_len (lx ts (i + 1))
        rw [hr, lx_len, lx_len] at this; omega
      exact ⟨v, j, false, rfl, hv, hE', hR', by omega, hj, fun _ => ⟨hr, hij, rfl, hP⟩, fun h => absurd h hn0⟩
    · rw [if_neg (by rw [← hkd, h]; decide), if_pos (by rw [← hkd, h])]
      refine (at_text rb a cap ts hl i hi dp wr h hw w hR hT).mono ?_
      rintro e w' ⟨v, rfl, hv, hE', hR', hj, hP⟩
      exact ⟨v, i + 1, false, rfl, hv, hE', hR', by omega, hj, fun _ => ⟨rfl, by omega, rfl, hP⟩, fun h => absurd h hn0⟩
    · rw [if_neg (by rw [← hkd, h]; decide), if_neg (by rw [← hkd, h]; decide), if_pos (by rw [← hkd, h])]
      refine (at_var rb a cap ts hl i hi dp wr h hw w hR hT).mono ?_
      rintro e w' ⟨v, rfl, hv, hE', hR', hj, hP⟩
      exact ⟨v, i + 1, false, rfl, hv, hE', hR', by omega, hj, fun _ => ⟨rfl, by omega, rfl, hP⟩, fun h => absurd h hn0⟩
    · rw [if_neg (by rw [← hkd, h]; decide), if_neg (by rw [← hkd, h]; decide), if_neg (by rw [← hkd, h]; decide), if_pos ⟨by rw [← hkd, h], hd (.inl h)⟩]
      refine (at_alpha rb a cap ts hl i hi dp wr h hw w hR hT).mono ?_
      rintro e w' ⟨v, rfl, hv, hE', hR', hj, hP⟩
      exact ⟨v, i + 1, false, rfl, hv, hE', hR', by omega, hj, fun _ => ⟨rfl, by omega, rfl, hP⟩, fun h => absurd h hn0⟩
    · rw [if_neg (by rw [← hkd, h]; decide), if_neg (by rw [← hkd, h]; decide), if_neg (by rw [← hkd, h]; decide), if_neg (by rw [← hkd, h]; simp), if_pos ⟨by rw [← hkd, h], hd (.inr h)⟩]
      refine (at_omega rb a cap ts hl i hi dp wr h hw w hR hT).mono ?_
      rintro e w' ⟨v, rfl, hv, hE', hR', hj, hP⟩
      exact ⟨v, i + 1, false, rfl, hv, hE', hR', by omega, hj, fun _ => ⟨rfl, by omega, rfl, hP⟩, fun h => absurd h hn0⟩
    · rw [if_neg (by rw [← hkd, h]; decide), if_neg (by rw [← hkd, h]; decide), if_neg (by rw [← hkd, h]; decide), if_neg (by rw [← hkd, h]; simp), if_neg (by rw [← hkd, h]; simp), if_pos (by rw [← hkd, h])]
      refine (at_left rb a cap ts hl i hi dp wr h hw E F hE h0 hdp hF w hR hT).mono ?_
      rintro e w' ⟨v, j2, wr2, j, wr', w1, w2, rfl, hv, hE', hR', hij2, hj2, hj, hz, hE2, hL, hN⟩
      refine ⟨v, j, wr', rfl, hv, hE', hR', by omega, hj, fun _ => ?_, fun h => absurd h hn0⟩
      match e : E (decide (0 < dp)) (lx ts (i + 1)) with
      | .error k =>
        rw [e] at hL
        obtain ⟨q1, q2, q3⟩ := hL
        obtain ⟨rfl, rfl⟩ := hN.2 (by rw [q2]; decide)
        exact DedO.of hj _ (by omega)
      | .ok (ns, r) =>
        rw [e] at hL
        obtain ⟨rfl, q1, rfl, q2⟩ := hL
        by_cases he : j2 = ts.length
        · rw [lx_end ts (by omega)]
          obtain ⟨rfl, rfl⟩ := hN.2 (by rw [kd_end ts he]; decide)
          exact DedO.of hj _ (by omega)
        have hlt2 : j2 < ts.length := by omega
        rw [lx_at ts hlt2]
        simp only []
        have K := kd_iff hlt2 dp (k := 6) (by decide) (by decide)
        by_cases h6 : (tkz ts j2).1.kind = 6
        · rw [if_pos h6]
          obtain ⟨rfl, rfl⟩ := hN.1 (K.2 h6)
          exact ⟨rfl, by omega, rfl, (q2.exc hE2 (fun k hk => by have := hR.lt; omega)).mono fun k _ hk => by omega⟩
        · rw [if_neg h6]
          obtain ⟨rfl, rfl⟩ := hN.2 (fun e => h6 (K.1 e))
          exact DedO.of hj _ (by rw [lx_len]; omega)
  · have g : kdV ts i dp wr ≠ 1 ∧ kdV ts i dp wr ≠ 2 ∧ kdV ts i dp wr ≠ 3 ∧ kdV ts i dp wr ≠ 18 ∧ kdV ts i dp wr ≠ 19 ∧ kdV ts i dp wr ≠ 5 := by omega
    refine (at_bad rb a cap ts hl i hi dp wr g.1 g.2.1 g.2.2.1 g.2.2.2.1 g.2.2.2.2.1 g.2.2.2.2.2 w hR hT).mono ?_
    rintro e w' ⟨rfl, hE', hR'⟩
    refine ⟨.nilIface, i, true, rfl, rfl, hE', hR', Nat.le_refl _, hi, ?_, fun _ => ⟨rfl, rfl⟩⟩
    rintro rfl
    by_cases he : i = ts.length
    · rw [lx_end ts (by omega)]
      exact DedO.of hi _ (by omega)
    have hlt : i < ts.length := by omega
    have K := fun k h0 h1 => kd_iff hlt dp (k := k) h0 h1
    rw [lx_at ts hlt]
    simp only [atP]
    have n18 : ∀ k : Int, k = 18 ∨ k = 19 → kdV ts i dp false ≠ k → ¬ ((tkz ts i).1.kind = k ∧ decide (0 < dp) = true) := by
      rintro k hk hne ⟨h1, h2⟩
      have h2 := of_decide_eq_true h2
      apply hne
      unfold kdV
      rw [if_neg (by simp; omega), if_neg (by omega)]
      exact h1
    rw [if_neg (fun e => g.1 ((K 1 (by decide) (by decide)).2 e)), if_neg (fun e => g.2.1 ((K 2 (by decide) (by decide)).2 e)), if_neg (fun e => g.2.2.1 ((K 3 (by decide) (by decide)).2 e)), if_neg (n18 18 (.inl rfl) g.2.2.2.1), if_neg (n18 19 (.inr rfl) g.2.2.2.2.1), if_neg (fun e => g.2.2.2.2.2 ((K 5 (by decide) (by decide)).2 e))]
    exact DedO.of hi _ (by rw [lx_len]; omega)
end Go.Proofs.YtgjgbgllhbdodaaGreatDoor
