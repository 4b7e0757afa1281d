/-
  The reader of words: what is told of Glyphs; what an expression's contract is.
-/
import Derived.Test.YtgjgbgllhbdodaaGreatDoorTpg
namespace Go.Proofs.YtgjgbgllhbdodaaGreatDoor
open Go.RowKit Go.Lib
set_option linter.unusedVariables false

theorem kd_iff {ts : List TkA} {i : Nat} (h : i < ts.length) (dp : Int) {k : Int} (h0 : k ≠ 0) (h1 : k ≠ 18 ∧ k ≠ 19 ∧ k ≠ 20) : kdV ts i dp false = k ↔ (tkz ts i).1.kind = k := by
  constructor
  · intro e
    have := (kdV_pos (dp := dp) (wr := false) (Nat.le_of_lt h) (by rw [e]; exact h0)).2.2
    rw [← this, e]
  · intro e
    rw [kdV_one h rfl (by rw [e]; exact h1), e]
theorem kd_end (ts : List TkA) {i : Nat} (h : i = ts.length) (dp : Int) (wr : Bool) : kdV ts i dp wr = 0 := if_pos (.inr h)
/-- What reading a Glyph and what belongs to it tells. -/
theorem glyphs_any (rb : Nat) (a : Option Addr) (cap : Nat) (ts : List TkA) (hG : RgT ts) (hl : ts.length ≤ 1000) (i : Nat) (hi : i ≤ ts.length) (dp : Int) (hk : kdV ts i dp false = 4) (w : World) (hR : Rdr w rb (.slice a ts.length cap) (i : Nat) dp false) (hT : IsTk rb w a ts) :
    Calls Tryz.prog 124 #[.pointer (some ⟨rb, 0, none⟩)] w (GlE rb a cap ts dp i (glP (tkz ts i).1.fn (lx ts (i + 1))) w) := by
  obtain ⟨_, hlt, _⟩ := kdV_pos hi (by rw [hk]; decide)
  by_cases he : i + 1 = ts.length
  · have k0 := kd_end ts he dp false
    refine (gl_plain rb a cap ts hG hl i hi dp hk (by rw [k0]; decide) (by rw [k0]; decide) (by rw [k0]; decide) w hR hT).mono ?_
    rintro e w' ⟨rfl, h1, h2⟩
    rw [lx_end ts (by omega)]
    exact ⟨_, _, _, i + 1, false, rfl, h1, h2, by omega, by omega, rfl, rfl, rfl, (lx_end ts (by omega)).symm, rfl⟩
  have hlt1 : i + 1 < ts.length := by omega
  have K := fun k h0 h1 => kd_iff hlt1 dp (k := k) h0 h1
  rw [lx_at ts hlt1]
  simp only [glP]
  by_cases h13 : (tkz ts (i + 1)).1.kind = 13
  · rw [if_pos h13]
    have q := (K 13 (by decide) (by decide)).2 h13
    refine (gl_swap rb a cap ts hG hl i hi dp hk q (by rw [q]; decide) w hR hT).mono ?_
    rintro e w' ⟨rfl, h1, h2⟩
    exact ⟨_, _, _, i + 1 + 1, false, rfl, h1, h2, by omega, by omega, rfl, rfl, rfl, rfl, rfl⟩
  rw [if_neg h13]
  by_cases h33 : (tkz ts (i + 1)).1.kind = 4 ∧ (tkz ts (i + 1)).1.fn = 33
  · rw [if_pos h33]
    have q := (K 4 (by decide) (by decide)).2 h33.1
    refine (gl_over rb a cap ts hG hl i hi dp hk q h33.2 w hR hT).mono ?_
    rintro e w' ⟨rfl, h1, h2⟩
    exact ⟨_, _, _, i + 1 + 1, false, rfl, h1, h2, by omega, by omega, rfl, rfl, rfl, rfl, rfl⟩
  rw [if_neg h33]
  by_cases h34 : (tkz ts (i + 1)).1.kind = 4 ∧ (tkz ts (i + 1)).1.fn = 34
  · rw [if_pos h34]
    have q := (K 4 (by decide) (by decide)).2 h34.1
    refine (gl_along rb a cap ts hG hl i hi dp hk q h34.2 (by rw [h34.2]; decide) w hR hT).mono ?_
    rintro e w' ⟨rfl, h1, h2⟩
    exact ⟨_, _, _, i + 1 + 1, false, rfl, h1, h2, by omega, by omega, rfl, rfl, rfl, rfl, rfl⟩
  rw [if_neg h34]
  by_cases h12 : (tkz ts (i + 1)).1.kind = 12
  · rw [if_pos h12]
    have q := (K 12 (by decide) (by decide)).2 h12
    refine (gl_inner rb a cap ts hG hl i hi dp hk q (by rw [q]; decide) (by rw [q]; decide) w hR hT).mono ?_
    rintro e w' ⟨x, j, wr, rfl, h1, hj, hO, h2, hx⟩
    by_cases he2 : i + 2 = ts.length
    · rw [lx_end ts (by omega)]
      obtain ⟨rfl, rfl⟩ := hO.2 (by rw [kd_end ts he2 dp false]; decide)
      exact ⟨_, _, _, i + 2, true, rfl, h1, h2, by omega, hj, DedO.of hj _ (by omega)⟩
    have hlt2 : i + 1 + 1 < ts.length := by omega
    rw [lx_at ts hlt2]
    simp only []
    have K2 := kd_iff hlt2 dp (k := 4) (by decide) (by decide)
    by_cases hv : (tkz ts (i + 1 + 1)).1.kind = 4
    · rw [if_pos hv]
      obtain ⟨rfl, rfl⟩ := hO.1 (K2.2 hv)
      exact ⟨_, _, _, i + 2 + 1, false, rfl, h1, h2, by omega, hj, by rw [← hx (K2.2 hv)], rfl, rfl, rfl, rfl⟩
    · rw [if_neg hv]
      obtain ⟨rfl, rfl⟩ := hO.2 (fun e => hv (K2.1 e))
      exact ⟨_, _, _, i + 2, true, rfl, h1, h2, by omega, hj, DedO.of hj _ (by rw [lx_len]; omega)⟩
  rw [if_neg h12]
  have n13 : kdV ts (i + 1) dp false ≠ 13 := fun e => h13 ((K 13 (by decide) (by decide)).1 e)
  have n12 : kdV ts (i + 1) dp false ≠ 12 := fun e => h12 ((K 12 (by decide) (by decide)).1 e)
  by_cases h4 : (tkz ts (i + 1)).1.kind = 4
  · have q := (K 4 (by decide) (by decide)).2 h4
    refine (gl_plain4 rb a cap ts hG hl i hi dp hk q (fun e => h33 ⟨h4, e⟩) (fun e => h34 ⟨h4, e⟩) n13 n12 w hR hT).mono ?_
    rintro e w' ⟨rfl, h1, h2⟩
    exact ⟨_, _, _, i + 1, false, rfl, h1, h2, by omega, by omega, rfl, rfl, rfl, (lx_at ts hlt1).symm, rfl⟩
  · refine (gl_plain rb a cap ts hG hl i hi dp hk (fun e => h4 ((K 4 (by decide) (by decide)).1 e)) n13 n12 w hR hT).mono ?_
    rintro e w' ⟨rfl, h1, h2⟩
    exact ⟨_, _, _, i + 1, false, rfl, h1, h2, by omega, by omega, rfl, rfl, rfl, (lx_at ts hlt1).symm, rfl⟩

/-! What the parts of the reader tell, wherever it stands. -/
def ExL (ts : List TkA) (lo : Nat) (w' : World) (v : Value) (dp : Int) (i j : Nat) (wr : Bool) : Rp → Prop
  | .ok (ns, r) => r = lx ts j ∧ i < j ∧ wr = false ∧ PartW (fun k => lo ≤ k) w' v ns
  | .error k => DedO ts j dp wr k
def ExA (rb : Nat) (a : Option Addr) (cap : Nat) (ts : List TkA) (x : Rp) (i : Nat) (dp : Int) (wr : Bool) (w : World) (e : Ending) (w' : World) : Prop :=
  ∃ (v : Value) (j : Nat) (wr' : Bool), e = .returned v ∧ v.oneCell' = true ∧ Exc rb w w' ∧ Rdr w' rb (.slice a ts.length cap) (j : Int) dp wr' ∧ i ≤ j ∧ j ≤ ts.length ∧
    (wr = false → ExL ts w.heap.size w' v dp i j wr' x) ∧ (kdV ts i dp wr = 0 → j = i ∧ wr' = true)
/-- What reading an expression tells, where few enough words are left. -/
def EcP (rb : Nat) (a : Option Addr) (cap : Nat) (ts : List TkA) (E : Bool → List Tk → Rp) (F : Nat) : Prop :=
  ∀ (i : Nat) (dp : Int) (wr : Bool) (w : World), i ≤ ts.length → 0 ≤ dp → dp ≤ i → ts.length - i < F → Rdr w rb (.slice a ts.length cap) (i : Nat) dp wr → IsTk rb w a ts →
    Calls Tryz.prog 42 #[.pointer (some ⟨rb, 0, none⟩)] w (ExA rb a cap ts (E (decide (0 < dp)) (lx ts i)) i dp wr w)
def FnL (ts : List TkA) (lo : Nat) (w' : World) (x0 x1 x2 : Int) (sa : Option Addr) (n : Nat) (dp : Int) (j : Nat) (wr : Bool) : Rf → Prop
  | .ok ((ac, m, body), r) => r = lx ts j ∧ wr = false ∧ ac = ⟨x0, x1, x2⟩ ∧ ∃ nss : List (List Nod), nss.length = n ∧ nss.flatten = body ∧ m = ((n / 2 : Nat) : Int) ∧ RowW (fun k => lo ≤ k) w' sa nss
  | .error k => DedO ts j dp wr k
/-- What reading a function tells. -/
def FnA (rb : Nat) (a : Option Addr) (cap : Nat) (ts : List TkA) (x : Rf) (i : Nat) (dp : Int) (w : World) (e : Ending) (w' : World) : Prop :=
  ∃ (x0 x1 x2 : Int) (sa : Option Addr) (n sc : Nat) (j : Nat) (wr : Bool), e = .returned (.agg #[.int .i64 x0, .int .i64 x1, .int .i64 x2, .slice sa n sc]) ∧ Exc rb w w' ∧ Rdr w' rb (.slice a ts.length cap) (j : Int) dp wr ∧ i < j ∧ j ≤ ts.length ∧
    FnL ts w.heap.size w' x0 x1 x2 sa n dp j wr x
/-- What reading what is written out tells. -/
def BdA (rb : Nat) (a : Option Addr) (cap : Nat) (ts : List TkA) (x : Rf) (i : Nat) (dp : Int) (w : World) (e : Ending) (w' : World) : Prop :=
  ∃ (sa : Option Addr) (n sc : Nat) (j : Nat) (wr : Bool), e = .returned (.slice sa n sc) ∧ Exc rb w w' ∧ Rdr w' rb (.slice a ts.length cap) (j : Int) dp wr ∧ i < j ∧ j ≤ ts.length ∧
    FnL ts w.heap.size w' 6 0 0 sa n dp j wr x
/-! Parts put one behind the other, read or not. -/
def OwnV (lo : Nat) (w : World) (v : Value) (n : Nat) (vs : List Value) : Prop := vs.length = n ∧ w.ownsRow lo 58 1 v n vs
def GrP (A : Nat → Prop) (w : World) (v : Value) (n : Nat) (vs : List Value) (nss : List (List Nod)) : Prop :=
  nss.length = n ∧ ∀ j, j < n → PartW (fun k => A k ∧ some k ≠ v.ownBlock) w (vs.getD j .nilIface) (nss.getD j [])
theorem OwnV.exc {lo rb : Nat} {w w' : World} {v : Value} {n : Nat} {vs : List Value} (h : OwnV lo w v n vs) (hE : Exc rb w w') (hlo : rb < lo) : OwnV lo w' v n vs := by
  refine ⟨h.1, h.2.1, ?_⟩
  rcases h.2.2 with h | ⟨g, cap, cur, e, h1, hg, h2⟩
  · exact .inl h
  · exact .inr ⟨g, cap, cur, e, h1, (hE.block g (Array.getElem?_eq_some_iff.1 hg).1 (by omega)).trans hg, h2⟩
theorem GrP.exc {A : Nat → Prop} {rb : Nat} {w w' : World} {v : Value} {n : Nat} {vs : List Value} {nss : List (List Nod)} (h : GrP A w v n vs nss) (hE : Exc rb w w') (hA : ∀ k, A k → k ≠ rb) : GrP A w' v n vs nss :=
  ⟨h.1, fun j hj => (h.2 j hj).exc hE fun k hk => hA k hk.1⟩
theorem OwnV.none (lo : Nat) (w : World) : OwnV lo w (.slice Option.none 0 0) 0 [] := ⟨rfl, World.ownsRow_nil _ _ _ _⟩
theorem OwnV.one {lo : Nat} (w : World) (x : Value) (hlo : lo ≤ w.heap.size) : OwnV lo (w.alloc (.cells #[x] 58)) (.slice (some ⟨w.heap.size, 0, Option.none⟩) 1 1) 1 [x] :=
  ⟨rfl, rfl, .inr ⟨w.heap.size, 1, #[x], rfl, hlo, World.alloc_heap_new w _, by omega, by decide, rfl, rfl⟩⟩
theorem GrP.one {A : Nat → Prop} {w : World} {x : Value} {ns : List Nod} (hx : PartW A w x ns) : GrP A (w.alloc (.cells #[x] 58)) (.slice (some ⟨w.heap.size, 0, none⟩) 1 1) 1 [x] [ns] := by
  obtain ⟨vs, e1, e2, hO, hP⟩ := GrowW.one (lo := 0) (Nat.zero_le _) hx
  refine ⟨e2, fun j hj => ?_⟩
  have := hP j hj
  obtain rfl : j = 0 := by omega
  show PartW _ _ x ns
  refine (hx.mono (B := fun k => A k ∧ k < w.heap.size) fun k hk ha => ⟨ha, hk⟩).go (by simp) (fun k hk ha => Below.heap_alloc w _ k hk) |>.mono ?_
  intro k _ ha
  refine ⟨ha.1, ?_⟩
  show some k ≠ some w.heap.size
  intro q; have := Option.some.inj q; omega
theorem GrP.snoc {A : Nat → Prop} {lo : Nat} {w w' : World} {v : Value} {n : Nat} {nss : List (List Nod)} {vs : List Value} {x : Value} {ns : List Nod} (h : GrP A w v n vs nss) (hv : OwnV lo w v n vs)
    (hx : PartW (fun k => A k ∧ some k ≠ v.ownBlock) w x ns) {g cap : Nat}
    (hO : w'.ownsRow lo 58 1 (.slice (some ⟨g, 0, none⟩) (n + 1) cap) (n + 1) (vs ++ [x])) (hg : w.grownBy w' v.ownBlock) (hgb : v.ownBlock = some g ∨ w.heap.size ≤ g) :
    GrP A w' (.slice (some ⟨g, 0, none⟩) (n + 1) cap) (n + 1) (vs ++ [x]) (nss ++ [ns]) := by
  have key : ∀ y ms, PartW (fun k => A k ∧ some k ≠ v.ownBlock) w y ms → PartW (fun k => A k ∧ some k ≠ (Value.slice (some ⟨g, 0, none⟩) (n + 1) cap).ownBlock) w' y ms := by
    intro y ms h
    refine (h.mono (B := fun k => (A k ∧ some k ≠ v.ownBlock) ∧ k < w.heap.size) fun k hk ha => ⟨ha, hk⟩).go hg.size (fun k hk ha => hg.block k hk ha.1.2) |>.mono ?_
    intro k _ ha
    refine ⟨ha.1.1, ?_⟩
    show some k ≠ some g
    rcases hgb with e | e
    · rw [← e]; exact ha.1.2
    · intro q; have := Option.some.inj q; omega
  have e1 := hv.1
  have e2 := h.1
  refine ⟨by simp [e2], fun j hj => ?_⟩
  by_cases e : j = n
  · subst e
    rw [List.getD_eq_getElem?_getD, List.getD_eq_getElem?_getD, List.getElem?_append_right (by omega), List.getElem?_append_right (by omega), e1, e2]
    simp only [Nat.sub_self, List.getElem?_cons_zero, Option.getD_some]
    exact key _ _ hx
  · have hj' : j < n := by omega
    rw [List.getD_eq_getElem?_getD, List.getD_eq_getElem?_getD, List.getElem?_append_left (by omega), List.getElem?_append_left (by omega), ← List.getD_eq_getElem?_getD, ← List.getD_eq_getElem?_getD]
    exact key _ _ (h.2 j hj')
theorem GrP.row {A : Nat → Prop} {lo : Nat} {w : World} {sa : Option Addr} {sc : Nat} {n : Nat} {vs : List Value} {nss : List (List Nod)} (h : GrP A w (.slice sa n sc) n vs nss) (hv : OwnV lo w (.slice sa n sc) n vs) (hlo : ∀ k, lo ≤ k → A k) : RowW A w sa nss := by
  obtain ⟨a, c, e, _, h'⟩ := GrowW.row (A := A) (lo := lo) ⟨vs, hv.1, h.1, hv.2, h.2⟩ hlo
  injection e with e1
  rw [e1]; exact h'
theorem OwnV.lo {lo : Nat} {w : World} {v : Value} {n : Nat} {vs : List Value} (h : OwnV lo w v n vs) : ∀ k, v.ownBlock = some k → lo ≤ k ∧ k < w.heap.size := own_lo h.2
/-- A part just read lies in no block of before. -/
theorem OwnV.out {lo B : Nat} {w w' : World} {v x : Value} {n : Nat} {vs : List Value} {ns : List Nod} (h : OwnV lo w v n vs) (hx : PartW (fun k => w.heap.size ≤ k) w' x ns) (hB : B ≤ w.heap.size) : PartW (fun k => B ≤ k ∧ some k ≠ v.ownBlock) w' x ns :=
  hx.mono fun k _ hk => ⟨by omega, fun e => by have := (h.lo k e.symm).2; omega⟩
end Go.Proofs.YtgjgbgllhbdodaaGreatDoor
