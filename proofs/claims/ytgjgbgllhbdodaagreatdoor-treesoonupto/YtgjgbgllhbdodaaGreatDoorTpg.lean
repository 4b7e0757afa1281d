/-
  The reader of words: a Glyph and what belongs to it.
-/
import Derived.Test.YtgjgbgllhbdodaaGreatDoorTpf
namespace Go.Proofs.YtgjgbgllhbdodaaGreatDoor
open Go.RowKit Go.Lib
set_option linter.unusedVariables false

def cells3 (a b c : Value) : Array Value := #[a, b, c]
/-- A block that holds three values, or four. -/
def Kb3 (t : TypeId) (w : World) (n : Nat) (a b c : Value) : Prop := w.heap[n]? = some (.cells (cells3 a b c) t (0, 0))
def Kb4 (t : TypeId) (w : World) (n : Nat) (a b c d : Value) : Prop := w.heap[n]? = some (.cells (cells4 a b c d) t (0, 0))
section
variable {t : TypeId} {w : World} {n : Nat} {a b c d : Value}
theorem Kb3.c0 (h : Kb3 t w n a b c) : w.cell? ⟨n, 0, none⟩ = some a := by unfold Kb3 at h; simp [World.cell?, h, cells3]
theorem Kb3.c1 (h : Kb3 t w n a b c) : w.cell? ⟨n, 1, none⟩ = some b := by unfold Kb3 at h; simp [World.cell?, h, cells3]
theorem Kb3.c2 (h : Kb3 t w n a b c) : w.cell? ⟨n, 2, none⟩ = some c := by unfold Kb3 at h; simp [World.cell?, h, cells3]
theorem Kb3.fr (h : Kb3 t w n a b c) (i : Nat) : w.frozen? ⟨n, i, none⟩ = false := by unfold Kb3 at h; simp [World.frozen?, h]
theorem Kb3.lt (h : Kb3 t w n a b c) : n < w.heap.size := (Array.getElem?_eq_some_iff.1 h).1
theorem Kb3.exc {w' : World} {rb : Nat} (h : Kb3 t w n a b c) (hE : Exc rb w w') (hn : n ≠ rb) : Kb3 t w' n a b c := (hE.block n h.lt hn).trans h
theorem Kb3.new (w : World) (t : TypeId) (a b c : Value) : Kb3 t (w.alloc (.cells #[a, b, c] t)) w.heap.size a b c := World.alloc_heap_new w _
theorem Kb3.set (h : Kb3 t w n a b c) (x y z : Value) : Kb3 t (((w.setCell ⟨n, 0, none⟩ x).setCell ⟨n, 1, none⟩ y).setCell ⟨n, 2, none⟩ z) n x y z := by unfold Kb3 at *; simp [World.setCell, Array.getElem?_modify, h, cells3]
theorem Kb4.c0 (h : Kb4 t w n a b c d) : w.cell? ⟨n, 0, none⟩ = some a := by unfold Kb4 at h; simp [World.cell?, h, cells4]
theorem Kb4.c1 (h : Kb4 t w n a b c d) : w.cell? ⟨n, 1, none⟩ = some b := by unfold Kb4 at h; simp [World.cell?, h, cells4]
theorem Kb4.c2 (h : Kb4 t w n a b c d) : w.cell? ⟨n, 2, none⟩ = some c := by unfold Kb4 at h; simp [World.cell?, h, cells4]
theorem Kb4.c3 (h : Kb4 t w n a b c d) : w.cell? ⟨n, 3, none⟩ = some d := by unfold Kb4 at h; simp [World.cell?, h, cells4]
theorem Kb4.fr (h : Kb4 t w n a b c d) (i : Nat) : w.frozen? ⟨n, i, none⟩ = false := by unfold Kb4 at h; simp [World.frozen?, h]
theorem Kb4.lt (h : Kb4 t w n a b c d) : n < w.heap.size := (Array.getElem?_eq_some_iff.1 h).1
theorem Kb4.exc {w' : World} {rb : Nat} (h : Kb4 t w n a b c d) (hE : Exc rb w w') (hn : n ≠ rb) : Kb4 t w' n a b c d := (hE.block n h.lt hn).trans h
theorem Kb4.new (w : World) (t : TypeId) (a b c d : Value) : Kb4 t (w.alloc (.cells #[a, b, c, d] t)) w.heap.size a b c d := World.alloc_heap_new w _
theorem Kb4.set (h : Kb4 t w n a b c d) (x y z u : Value) : Kb4 t ((((w.setCell ⟨n, 0, none⟩ x).setCell ⟨n, 1, none⟩ y).setCell ⟨n, 2, none⟩ z).setCell ⟨n, 3, none⟩ u) n x y z u := by unfold Kb4 at *; simp [World.setCell, Array.getElem?_modify, h, cells4]
end
theorem exc_set3 {rb b : Nat} {u w : World} (h : Exc rb u w) (hb : u.heap.size ≤ b) (x y z : Value) : Exc rb u (((w.setCell ⟨b, 0, none⟩ x).setCell ⟨b, 1, none⟩ y).setCell ⟨b, 2, none⟩ z) :=
  ((h.setNew (p := ⟨b, 0, none⟩) hb _).setNew (p := ⟨b, 1, none⟩) hb _).setNew (p := ⟨b, 2, none⟩) hb _
theorem exc_set4 {rb b : Nat} {u w : World} (h : Exc rb u w) (hb : u.heap.size ≤ b) (x y z v : Value) : Exc rb u ((((w.setCell ⟨b, 0, none⟩ x).setCell ⟨b, 1, none⟩ y).setCell ⟨b, 2, none⟩ z).setCell ⟨b, 3, none⟩ v) :=
  (exc_set3 h hb x y z).setNew (p := ⟨b, 3, none⟩) hb _
theorem Rdr.set3 {w : World} {n b : Nat} {v : Value} {i dp : Int} {wr : Bool} (h : Rdr w n v i dp wr) (hb : n ≠ b) (x y z : Value) : Rdr (((w.setCell ⟨b, 0, none⟩ x).setCell ⟨b, 1, none⟩ y).setCell ⟨b, 2, none⟩ z) n v i dp wr :=
  ((h.ot (p := ⟨b, 0, none⟩) hb _).ot (p := ⟨b, 1, none⟩) hb _).ot (p := ⟨b, 2, none⟩) hb _
theorem Rdr.set4 {w : World} {n b : Nat} {v : Value} {i dp : Int} {wr : Bool} (h : Rdr w n v i dp wr) (hb : n ≠ b) (x y z u : Value) : Rdr ((((w.setCell ⟨b, 0, none⟩ x).setCell ⟨b, 1, none⟩ y).setCell ⟨b, 2, none⟩ z).setCell ⟨b, 3, none⟩ u) n v i dp wr :=
  (h.set3 hb x y z).ot (p := ⟨b, 3, none⟩) hb _
set_option maxRecDepth 100000 in
set_option maxHeartbeats 4000000 in
theorem gl_over (rb : Nat) (a : Option Addr) (cap : Nat) (ts : List TkA) (hG : RgT ts) (hl : ts.length ≤ 1000) (i : Nat) (hi : i ≤ ts.length) (dp : Int) (hk : kdV ts i dp false = 4) (h1k : kdV ts (i + 1) dp false = 4) (hf : (tkz ts (i + 1)).1.fn = 33) (w : World) (hR : Rdr w rb (.slice a ts.length cap) (i : Nat) dp false) (hT : IsTk rb w a ts) :
    Calls Tryz.prog 124 #[.pointer (some ⟨rb, 0, none⟩)] w fun e w' => e = .returned (.agg #[.int .i64 1, .int .i64 (tkz ts i).1.fn, .int .i64 0]) ∧ Exc rb w w' ∧ Rdr w' rb (.slice a ts.length cap) ((i + 1 + 1 : Nat) : Int) dp false := by
  obtain ⟨_, hlt, _⟩ := kdV_pos hi (by rw [hk]; decide)
  have HR : Hid (Rdr w rb (.slice a ts.length cap) (i : Nat) dp false) := hR
  have HT : Hid (IsTk rb w a ts) := hT
  have hbs : rb < w.heap.size := hR.lt
  have hn := fun W h1 h2 => next_yes 4 rb a cap ts hl i hi dp false hk (by decide) W h1 h2
  have q0 := fun W h1 h2 => has_yes 4 33 rb a cap ts hl (i + 1) hlt dp false h1k (by decide) hf W h1 h2
  clear hR hT hk h1k hf
  have HK0 : Hid (Kb3 32 (w.alloc (.cells #[.int .i64 0, .int .i64 0, .int .i64 0] 32)) w.heap.size (.int .i64 0) (.int .i64 0) (.int .i64 0)) := Kb3.new w _ _ _ _
  have HE0 : Hid (Exc rb w (w.alloc (.cells #[.int .i64 0, .int .i64 0, .int .i64 0] 32))) := (Exc.refl rb w).alloc _
  have HR0 : Hid (Rdr (w.alloc (.cells #[.int .i64 0, .int .i64 0, .int .i64 0] 32)) rb (.slice a ts.length cap) (i : Nat) dp false) := HR.out.al _
  go_enter Tryz.func124, Tryz.ntmps124
  go_wp2_with fail
  generalize (w.alloc (.cells #[.int .i64 0, .int .i64 0, .int .i64 0] 32)) = W0 at *
  refine (hn _ HR0.out (HT.out.go (HE0.out.below (by omega)))).mono ?_
  rintro e w1 ⟨rfl, hR1, hE1⟩
  have HE1 : Hid (Exc rb w w1) := HE0.out.trans hE1
  have HK1 : Hid (Kb3 32 w1 w.heap.size (.int .i64 0) (.int .i64 0) (.int .i64 0)) := HK0.out.exc hE1 (by omega)
  have HR1 : Hid (Rdr w1 rb (.slice a ts.length cap) ((i + 1 : Nat) : Int) dp false) := hR1
  clear hR1 hE1 hn
  simp only [tkV, TkA.s]
  have hfld := fld_fn (tkz ts i).1.kind (tkz ts i).1.fn (tkz ts i).1.num ⟨(tkz ts i).1.text.toArray⟩ (tkz ts i).2
  go_wp2_with fail
  refine (glyph_any18 33 w1).mono ?_
  rintro e w2 ⟨rfl, hB⟩
  have HE2 : Hid (Exc rb w w2) := HE1.out.trans (Exc.bel hB (Nat.le_refl _))
  have HK2 : Hid (Kb3 32 w2 w.heap.size (.int .i64 0) (.int .i64 0) (.int .i64 0)) := HK1.out.exc (rb := rb) (Exc.bel hB (Nat.le_refl _)) (by omega)
  have HR2 : Hid (Rdr w2 rb (.slice a ts.length cap) ((i + 1 : Nat) : Int) dp false) := HR1.out.bel hB
  clear hB
  go_wp2_with fail
  refine (q0 w2 HR2.out (HT.out.go (HE2.out.below (by omega)))).mono ?_
  rintro e w3 ⟨rfl, hR, hE⟩
  have HE3 : Hid (Exc rb w w3) := HE2.out.trans hE
  have HK3 : Hid (Kb3 32 w3 w.heap.size (.int .i64 0) (.int .i64 0) (.int .i64 0)) := HK2.out.exc hE (by omega)
  have HR3 : Hid (Rdr w3 rb (.slice a ts.length cap) ((i + 1 + 1 : Nat) : Int) dp false) := hR
  clear hR hE q0
  have d0 := HK3.out.c0
  have f0 := HK3.out.fr 0
  have d1 := HK3.out.c1
  have f1 := HK3.out.fr 1
  have d2 := HK3.out.c2
  have f2 := HK3.out.fr 2
  go_wp2_with fail
  have F := HK3.out.set (.int .i64 1) (.int .i64 (tkz ts i).1.fn) (.int .i64 0)
  have g0 := F.c0
  have g1 := F.c1
  have g2 := F.c2
  exact bodyPost_ret (v := .agg #[.int .i64 1, .int .i64 (tkz ts i).1.fn, .int .i64 0]) (by simp [results, Tryz.results124, go_sem, g0, g1, g2]) rfl ⟨rfl, exc_set3 HE3.out (Nat.le_refl _) _ _ _, HR3.out.set3 (by omega) _ _ _⟩
set_option maxRecDepth 100000 in
set_option maxHeartbeats 4000000 in
theorem gl_along (rb : Nat) (a : Option Addr) (cap : Nat) (ts : List TkA) (hG : RgT ts) (hl : ts.length ≤ 1000) (i : Nat) (hi : i ≤ ts.length) (dp : Int) (hk : kdV ts i dp false = 4) (h1k : kdV ts (i + 1) dp false = 4) (hf : (tkz ts (i + 1)).1.fn = 34) (hf33 : (tkz ts (i + 1)).1.fn ≠ 33) (w : World) (hR : Rdr w rb (.slice a ts.length cap) (i : Nat) dp false) (hT : IsTk rb w a ts) :
    Calls Tryz.prog 124 #[.pointer (some ⟨rb, 0, none⟩)] w fun e w' => e = .returned (.agg #[.int .i64 2, .int .i64 (tkz ts i).1.fn, .int .i64 0]) ∧ Exc rb w w' ∧ Rdr w' rb (.slice a ts.length cap) ((i + 1 + 1 : Nat) : Int) dp false := by
  obtain ⟨_, hlt, _⟩ := kdV_pos hi (by rw [hk]; decide)
  have HR : Hid (Rdr w rb (.slice a ts.length cap) (i : Nat) dp false) := hR
  have HT : Hid (IsTk rb w a ts) := hT
  have hbs : rb < w.heap.size := hR.lt
  have hn := fun W h1 h2 => next_yes 4 rb a cap ts hl i hi dp false hk (by decide) W h1 h2
  have q0 := fun W h1 h2 => has_fn 4 33 rb a cap ts hl (i + 1) hlt dp false h1k (by decide) hf33 W h1 h2
  have q1 := fun W h1 h2 => has_yes 4 34 rb a cap ts hl (i + 1) hlt dp false h1k (by decide) hf W h1 h2
  clear hR hT hk h1k hf hf33
  have HK0 : Hid (Kb3 32 (w.alloc (.cells #[.int .i64 0, .int .i64 0, .int .i64 0] 32)) w.heap.size (.int .i64 0) (.int .i64 0) (.int .i64 0)) := Kb3.new w _ _ _ _
  have HE0 : Hid (Exc rb w (w.alloc (.cells #[.int .i64 0, .int .i64 0, .int .i64 0] 32))) := (Exc.refl rb w).alloc _
  have HR0 : Hid (Rdr (w.alloc (.cells #[.int .i64 0, .int .i64 0, .int .i64 0] 32)) rb (.slice a ts.length cap) (i : Nat) dp false) := HR.out.al _
  go_enter Tryz.func124, Tryz.ntmps124
  go_wp2_with fail
  generalize (w.alloc (.cells #[.int .i64 0, .int .i64 0, .int .i64 0] 32)) = W0 at *
  refine (hn _ HR0.out (HT.out.go (HE0.out.below (by omega)))).mono ?_
  rintro e w1 ⟨rfl, hR1, hE1⟩
  have HE1 : Hid (Exc rb w w1) := HE0.out.trans hE1
  have HK1 : Hid (Kb3 32 w1 w.heap.size (.int .i64 0) (.int .i64 0) (.int .i64 0)) := HK0.out.exc hE1 (by omega)
  have HR1 : Hid (Rdr w1 rb (.slice a ts.length cap) ((i + 1 : Nat) : Int) dp false) := hR1
  clear hR1 hE1 hn
  simp only [tkV, TkA.s]
  have hfld := fld_fn (tkz ts i).1.kind (tkz ts i).1.fn (tkz ts i).1.num ⟨(tkz ts i).1.text.toArray⟩ (tkz ts i).2
  go_wp2_with fail
  refine (glyph_any18 33 w1).mono ?_
  rintro e w2 ⟨rfl, hB⟩
  have HE2 : Hid (Exc rb w w2) := HE1.out.trans (Exc.bel hB (Nat.le_refl _))
  have HK2 : Hid (Kb3 32 w2 w.heap.size (.int .i64 0) (.int .i64 0) (.int .i64 0)) := HK1.out.exc (rb := rb) (Exc.bel hB (Nat.le_refl _)) (by omega)
  have HR2 : Hid (Rdr w2 rb (.slice a ts.length cap) ((i + 1 : Nat) : Int) dp false) := HR1.out.bel hB
  clear hB
  go_wp2_with fail
  refine (q0 w2 HR2.out (HT.out.go (HE2.out.below (by omega)))).mono ?_
  rintro e w3 ⟨rfl, hR, hE⟩
  have HE3 : Hid (Exc rb w w3) := HE2.out.trans hE
  have HK3 : Hid (Kb3 32 w3 w.heap.size (.int .i64 0) (.int .i64 0) (.int .i64 0)) := HK2.out.exc hE (by omega)
  have HR3 : Hid (Rdr w3 rb (.slice a ts.length cap) ((i + 1 : Nat) : Int) dp false) := hR
  clear hR hE q0
  go_wp2_with fail
  refine (glyph_any18 34 w3).mono ?_
  rintro e w4 ⟨rfl, hB⟩
  have HE4 : Hid (Exc rb w w4) := HE3.out.trans (Exc.bel hB (Nat.le_refl _))
  have HK4 : Hid (Kb3 32 w4 w.heap.size (.int .i64 0) (.int .i64 0) (.int .i64 0)) := HK3.out.exc (rb := rb) (Exc.bel hB (Nat.le_refl _)) (by omega)
  have HR4 : Hid (Rdr w4 rb (.slice a ts.length cap) ((i + 1 : Nat) : Int) dp false) := HR3.out.bel hB
  clear hB
  go_wp2_with fail
  refine (q1 w4 HR4.out (HT.out.go (HE4.out.below (by omega)))).mono ?_
  rintro e w5 ⟨rfl, hR, hE⟩
  have HE5 : Hid (Exc rb w w5) := HE4.out.trans hE
  have HK5 : Hid (Kb3 32 w5 w.heap.size (.int .i64 0) (.int .i64 0) (.int .i64 0)) := HK4.out.exc hE (by omega)
  have HR5 : Hid (Rdr w5 rb (.slice a ts.length cap) ((i + 1 + 1 : Nat) : Int) dp false) := hR
  clear hR hE q1
  have d0 := HK5.out.c0
  have f0 := HK5.out.fr 0
  have d1 := HK5.out.c1
  have f1 := HK5.out.fr 1
  have d2 := HK5.out.c2
  have f2 := HK5.out.fr 2
  go_wp2_with fail
  have F := HK5.out.set (.int .i64 2) (.int .i64 (tkz ts i).1.fn) (.int .i64 0)
  have g0 := F.c0
  have g1 := F.c1
  have g2 := F.c2
  exact bodyPost_ret (v := .agg #[.int .i64 2, .int .i64 (tkz ts i).1.fn, .int .i64 0]) (by simp [results, Tryz.results124, go_sem, g0, g1, g2]) rfl ⟨rfl, exc_set3 HE5.out (Nat.le_refl _) _ _ _, HR5.out.set3 (by omega) _ _ _⟩
set_option maxRecDepth 100000 in
set_option maxHeartbeats 4000000 in
theorem gl_swap (rb : Nat) (a : Option Addr) (cap : Nat) (ts : List TkA) (hG : RgT ts) (hl : ts.length ≤ 1000) (i : Nat) (hi : i ≤ ts.length) (dp : Int) (hk : kdV ts i dp false = 4) (h1k : kdV ts (i + 1) dp false = 13) (h4 : kdV ts (i + 1) dp false ≠ 4) (w : World) (hR : Rdr w rb (.slice a ts.length cap) (i : Nat) dp false) (hT : IsTk rb w a ts) :
    Calls Tryz.prog 124 #[.pointer (some ⟨rb, 0, none⟩)] w fun e w' => e = .returned (.agg #[.int .i64 5, .int .i64 (tkz ts i).1.fn, .int .i64 0]) ∧ Exc rb w w' ∧ Rdr w' rb (.slice a ts.length cap) ((i + 1 + 1 : Nat) : Int) dp false := by
  obtain ⟨_, hlt, _⟩ := kdV_pos hi (by rw [hk]; decide)
  have HR : Hid (Rdr w rb (.slice a ts.length cap) (i : Nat) dp false) := hR
  have HT : Hid (IsTk rb w a ts) := hT
  have hbs : rb < w.heap.size := hR.lt
  have hn := fun W h1 h2 => next_yes 4 rb a cap ts hl i hi dp false hk (by decide) W h1 h2
  have q0 := fun W h1 h2 => has_kd 4 33 rb a cap ts hl (i + 1) hlt dp false (h4) W h1 h2
  have q1 := fun W h1 h2 => has_kd 4 34 rb a cap ts hl (i + 1) hlt dp false (h4) W h1 h2
  have q2 := fun W h1 h2 => has_sgn 13 (by decide) (by decide) rb a cap ts hG hl (i + 1) hlt dp false h1k W h1 h2
  clear hR hT hk h1k h4
  have HK0 : Hid (Kb3 32 (w.alloc (.cells #[.int .i64 0, .int .i64 0, .int .i64 0] 32)) w.heap.size (.int .i64 0) (.int .i64 0) (.int .i64 0)) := Kb3.new w _ _ _ _
  have HE0 : Hid (Exc rb w (w.alloc (.cells #[.int .i64 0, .int .i64 0, .int .i64 0] 32))) := (Exc.refl rb w).alloc _
  have HR0 : Hid (Rdr (w.alloc (.cells #[.int .i64 0, .int .i64 0, .int .i64 0] 32)) rb (.slice a ts.length cap) (i : Nat) dp false) := HR.out.al _
  go_enter Tryz.func124, Tryz.ntmps124
  go_wp2_with fail
  generalize (w.alloc (.cells #[.int .i64 0, .int .i64 0, .int .i64 0] 32)) = W0 at *
  refine (hn _ HR0.out (HT.out.go (HE0.out.below (by omega)))).mono ?_
  rintro e w1 ⟨rfl, hR1, hE1⟩
  have HE1 : Hid (Exc rb w w1) := HE0.out.trans hE1
  have HK1 : Hid (Kb3 32 w1 w.heap.size (.int .i64 0) (.int .i64 0) (.int .i64 0)) := HK0.out.exc hE1 (by omega)
  have HR1 : Hid (Rdr w1 rb (.slice a ts.length cap) ((i + 1 : Nat) : Int) dp false) := hR1
  clear hR1 hE1 hn
  simp only [tkV, TkA.s]
  have hfld := fld_fn (tkz ts i).1.kind (tkz ts i).1.fn (tkz ts i).1.num ⟨(tkz ts i).1.text.toArray⟩ (tkz ts i).2
  go_wp2_with fail
  refine (glyph_any18 33 w1).mono ?_
  rintro e w2 ⟨rfl, hB⟩
  have HE2 : Hid (Exc rb w w2) := HE1.out.trans (Exc.bel hB (Nat.le_refl _))
  have HK2 : Hid (Kb3 32 w2 w.heap.size (.int .i64 0) (.int .i64 0) (.int .i64 0)) := HK1.out.exc (rb := rb) (Exc.bel hB (Nat.le_refl _)) (by omega)
  have HR2 : Hid (Rdr w2 rb (.slice a ts.length cap) ((i + 1 : Nat) : Int) dp false) := HR1.out.bel hB
  clear hB
  go_wp2_with fail
  refine (q0 w2 HR2.out (HT.out.go (HE2.out.below (by omega)))).mono ?_
  rintro e w3 ⟨rfl, hR, hE⟩
  have HE3 : Hid (Exc rb w w3) := HE2.out.trans hE
  have HK3 : Hid (Kb3 32 w3 w.heap.size (.int .i64 0) (.int .i64 0) (.int .i64 0)) := HK2.out.exc hE (by omega)
  have HR3 : Hid (Rdr w3 rb (.slice a ts.length cap) ((i + 1 : Nat) : Int) dp false) := hR
  clear hR hE q0
  go_wp2_with fail
  refine (glyph_any18 34 w3).mono ?_
  rintro e w4 ⟨rfl, hB⟩
  have HE4 : Hid (Exc rb w w4) := HE3.out.trans (Exc.bel hB (Nat.le_refl _))
  have HK4 : Hid (Kb3 32 w4 w.heap.size (.int .i64 0) (.int .i64 0) (.int .i64 0)) := HK3.out.exc (rb := rb) (Exc.bel hB (Nat.le_refl _)) (by omega)
  have HR4 : Hid (Rdr w4 rb (.slice a ts.length cap) ((i + 1 : Nat) : Int) dp false) := HR3.out.bel hB
  clear hB
  go_wp2_with fail
  refine (q1 w4 HR4.out (HT.out.go (HE4.out.below (by omega)))).mono ?_
  rintro e w5 ⟨rfl, hR, hE⟩
  have HE5 : Hid (Exc rb w w5) := HE4.out.trans hE
  have HK5 : Hid (Kb3 32 w5 w.heap.size (.int .i64 0) (.int .i64 0) (.int .i64 0)) := HK4.out.exc hE (by omega)
  have HR5 : Hid (Rdr w5 rb (.slice a ts.length cap) ((i + 1 : Nat) : Int) dp false) := hR
  clear hR hE q1
  go_wp2_with fail
  refine (sgn_any18 13 w5).mono ?_
  rintro e w6 ⟨rfl, hB⟩
  have HE6 : Hid (Exc rb w w6) := HE5.out.trans (Exc.bel hB (Nat.le_refl _))
  have HK6 : Hid (Kb3 32 w6 w.heap.size (.int .i64 0) (.int .i64 0) (.int .i64 0)) := HK5.out.exc (rb := rb) (Exc.bel hB (Nat.le_refl _)) (by omega)
  have HR6 : Hid (Rdr w6 rb (.slice a ts.length cap) ((i + 1 : Nat) : Int) dp false) := HR5.out.bel hB
  clear hB
  go_wp2_with fail
  refine (q2 w6 HR6.out (HT.out.go (HE6.out.below (by omega)))).mono ?_
  rintro e w7 ⟨rfl, hR, hE⟩
  have HE7 : Hid (Exc rb w w7) := HE6.out.trans hE
  have HK7 : Hid (Kb3 32 w7 w.heap.size (.int .i64 0) (.int .i64 0) (.int .i64 0)) := HK6.out.exc hE (by omega)
  have HR7 : Hid (Rdr w7 rb (.slice a ts.length cap) ((i + 1 + 1 : Nat) : Int) dp false) := hR
  clear hR hE q2
  have d0 := HK7.out.c0
  have f0 := HK7.out.fr 0
  have d1 := HK7.out.c1
  have f1 := HK7.out.fr 1
  have d2 := HK7.out.c2
  have f2 := HK7.out.fr 2
  go_wp2_with fail
  have F := HK7.out.set (.int .i64 5) (.int .i64 (tkz ts i).1.fn) (.int .i64 0)
  have g0 := F.c0
  have g1 := F.c1
  have g2 := F.c2
  exact bodyPost_ret (v := .agg #[.int .i64 5, .int .i64 (tkz ts i).1.fn, .int .i64 0]) (by simp [results, Tryz.results124, go_sem, g0, g1, g2]) rfl ⟨rfl, exc_set3 HE7.out (Nat.le_refl _) _ _ _, HR7.out.set3 (by omega) _ _ _⟩
set_option maxRecDepth 100000 in
set_option maxHeartbeats 4000000 in
theorem gl_inner (rb : Nat) (a : Option Addr) (cap : Nat) (ts : List TkA) (hG : RgT ts) (hl : ts.length ≤ 1000) (i : Nat) (hi : i ≤ ts.length) (dp : Int) (hk : kdV ts i dp false = 4) (h1k : kdV ts (i + 1) dp false = 12) (h4 : kdV ts (i + 1) dp false ≠ 4) (h13 : kdV ts (i + 1) dp false ≠ 13) (w : World) (hR : Rdr w rb (.slice a ts.length cap) (i : Nat) dp false) (hT : IsTk rb w a ts) :
    Calls Tryz.prog 124 #[.pointer (some ⟨rb, 0, none⟩)] w fun e w' => ∃ (x : Int) (j : Nat) (wr : Bool), e = .returned (.agg #[.int .i64 4, .int .i64 (tkz ts i).1.fn, .int .i64 x]) ∧ Exc rb w w' ∧ j ≤ ts.length ∧ NxO ts (i + 2) dp false 4 j wr ∧ Rdr w' rb (.slice a ts.length cap) (j : Int) dp wr ∧ (kdV ts (i + 2) dp false = 4 → x = (tkz ts (i + 2)).1.fn) := by
  obtain ⟨_, hlt, _⟩ := kdV_pos hi (by rw [hk]; decide)
  have HL : Hid (i + 1 < ts.length) := (kdV_pos hlt (by rw [h1k]; decide)).2.1
  have HR : Hid (Rdr w rb (.slice a ts.length cap) (i : Nat) dp false) := hR
  have HT : Hid (IsTk rb w a ts) := hT
  have hbs : rb < w.heap.size := hR.lt
  have hn := fun W h1 h2 => next_yes 4 rb a cap ts hl i hi dp false hk (by decide) W h1 h2
  have q0 := fun W h1 h2 => has_kd 4 33 rb a cap ts hl (i + 1) hlt dp false (h4) W h1 h2
  have q1 := fun W h1 h2 => has_kd 4 34 rb a cap ts hl (i + 1) hlt dp false (h4) W h1 h2
  have q2 := fun W h1 h2 => has_kd 13 0 rb a cap ts hl (i + 1) hlt dp false (h13) W h1 h2
  have q3 := fun W h1 h2 => has_sgn 12 (by decide) (by decide) rb a cap ts hG hl (i + 1) hlt dp false h1k W h1 h2
  clear hR hT hk h1k h4 h13
  have HK0 : Hid (Kb3 32 (w.alloc (.cells #[.int .i64 0, .int .i64 0, .int .i64 0] 32)) w.heap.size (.int .i64 0) (.int .i64 0) (.int .i64 0)) := Kb3.new w _ _ _ _
  have HE0 : Hid (Exc rb w (w.alloc (.cells #[.int .i64 0, .int .i64 0, .int .i64 0] 32))) := (Exc.refl rb w).alloc _
  have HR0 : Hid (Rdr (w.alloc (.cells #[.int .i64 0, .int .i64 0, .int .i64 0] 32)) rb (.slice a ts.length cap) (i : Nat) dp false) := HR.out.al _
  go_enter Tryz.func124, Tryz.ntmps124
  go_wp2_with fail
  generalize (w.alloc (.cells #[.int .i64 0, .int .i64 0, .int .i64 0] 32)) = W0 at *
  refine (hn _ HR0.out (HT.out.go (HE0.out.below (by omega)))).mono ?_
  rintro e w1 ⟨rfl, hR1, hE1⟩
  have HE1 : Hid (Exc rb w w1) := HE0.out.trans hE1
  have HK1 : Hid (Kb3 32 w1 w.heap.size (.int .i64 0) (.int .i64 0) (.int .i64 0)) := HK0.out.exc hE1 (by omega)
  have HR1 : Hid (Rdr w1 rb (.slice a ts.length cap) ((i + 1 : Nat) : Int) dp false) := hR1
  clear hR1 hE1 hn
  simp only [tkV, TkA.s]
  have hfld := fld_fn (tkz ts i).1.kind (tkz ts i).1.fn (tkz ts i).1.num ⟨(tkz ts i).1.text.toArray⟩ (tkz ts i).2
  go_wp2_with fail
  refine (glyph_any18 33 w1).mono ?_
  rintro e w2 ⟨rfl, hB⟩
  have HE2 : Hid (Exc rb w w2) := HE1.out.trans (Exc.bel hB (Nat.le_refl _))
  have HK2 : Hid (Kb3 32 w2 w.heap.size (.int .i64 0) (.int .i64 0) (.int .i64 0)) := HK1.out.exc (rb := rb) (Exc.bel hB (Nat.le_refl _)) (by omega)
  have HR2 : Hid (Rdr w2 rb (.slice a ts.length cap) ((i + 1 : Nat) : Int) dp false) := HR1.out.bel hB
  clear hB
  go_wp2_with fail
  refine (q0 w2 HR2.out (HT.out.go (HE2.out.below (by omega)))).mono ?_
  rintro e w3 ⟨rfl, hR, hE⟩
  have HE3 : Hid (Exc rb w w3) := HE2.out.trans hE
  have HK3 : Hid (Kb3 32 w3 w.heap.size (.int .i64 0) (.int .i64 0) (.int .i64 0)) := HK2.out.exc hE (by omega)
  have HR3 : Hid (Rdr w3 rb (.slice a ts.length cap) ((i + 1 : Nat) : Int) dp false) := hR
  clear hR hE q0
  go_wp2_with fail
  refine (glyph_any18 34 w3).mono ?_
  rintro e w4 ⟨rfl, hB⟩
  have HE4 : Hid (Exc rb w w4) := HE3.out.trans (Exc.bel hB (Nat.le_refl _))
  have HK4 : Hid (Kb3 32 w4 w.heap.size (.int .i64 0) (.int .i64 0) (.int .i64 0)) := HK3.out.exc (rb := rb) (Exc.bel hB (Nat.le_refl _)) (by omega)
  have HR4 : Hid (Rdr w4 rb (.slice a ts.length cap) ((i + 1 : Nat) : Int) dp false) := HR3.out.bel hB
  clear hB
  go_wp2_with fail
  refine (q1 w4 HR4.out (HT.out.go (HE4.out.below (by omega)))).mono ?_
  rintro e w5 ⟨rfl, hR, hE⟩
  have HE5 : Hid (Exc rb w w5) := HE4.out.trans hE
  have HK5 : Hid (Kb3 32 w5 w.heap.size (.int .i64 0) (.int .i64 0) (.int .i64 0)) := HK4.out.exc hE (by omega)
  have HR5 : Hid (Rdr w5 rb (.slice a ts.length cap) ((i + 1 : Nat) : Int) dp false) := hR
  clear hR hE q1
  go_wp2_with fail
  refine (sgn_any18 13 w5).mono ?_
  rintro e w6 ⟨rfl, hB⟩
  have HE6 : Hid (Exc rb w w6) := HE5.out.trans (Exc.bel hB (Nat.le_refl _))
  have HK6 : Hid (Kb3 32 w6 w.heap.size (.int .i64 0) (.int .i64 0) (.int .i64 0)) := HK5.out.exc (rb := rb) (Exc.bel hB (Nat.le_refl _)) (by omega)
  have HR6 : Hid (Rdr w6 rb (.slice a ts.length cap) ((i + 1 : Nat) : Int) dp false) := HR5.out.bel hB
  clear hB
  go_wp2_with fail
  refine (q2 w6 HR6.out (HT.out.go (HE6.out.below (by omega)))).mono ?_
  rintro e w7 ⟨rfl, hR, hE⟩
  have HE7 : Hid (Exc rb w w7) := HE6.out.trans hE
  have HK7 : Hid (Kb3 32 w7 w.heap.size (.int .i64 0) (.int .i64 0) (.int .i64 0)) := HK6.out.exc hE (by omega)
  have HR7 : Hid (Rdr w7 rb (.slice a ts.length cap) ((i + 1 : Nat) : Int) dp false) := hR
  clear hR hE q2
  go_wp2_with fail
  refine (sgn_any18 12 w7).mono ?_
  rintro e w8 ⟨rfl, hB⟩
  have HE8 : Hid (Exc rb w w8) := HE7.out.trans (Exc.bel hB (Nat.le_refl _))
  have HK8 : Hid (Kb3 32 w8 w.heap.size (.int .i64 0) (.int .i64 0) (.int .i64 0)) := HK7.out.exc (rb := rb) (Exc.bel hB (Nat.le_refl _)) (by omega)
  have HR8 : Hid (Rdr w8 rb (.slice a ts.length cap) ((i + 1 : Nat) : Int) dp false) := HR7.out.bel hB
  clear hB
  go_wp2_with fail
  refine (q3 w8 HR8.out (HT.out.go (HE8.out.below (by omega)))).mono ?_
  rintro e w9 ⟨rfl, hR, hE⟩
  have HE9 : Hid (Exc rb w w9) := HE8.out.trans hE
  have HK9 : Hid (Kb3 32 w9 w.heap.size (.int .i64 0) (.int .i64 0) (.int .i64 0)) := HK8.out.exc hE (by omega)
  have HR9 : Hid (Rdr w9 rb (.slice a ts.length cap) ((i + 1 + 1 : Nat) : Int) dp false) := hR
  clear hR hE q3
  go_wp2_with fail
  refine (next_any18 4 (by decide) rb a cap ts hl (i + 1 + 1) (by have := HL.out; omega) dp false w9 HR9.out (HT.out.go (HE9.out.below (by omega)))).mono ?_
  rintro e w10 ⟨x0, x1, x2, tx, x4, j, wr, rfl, hR, hE, hj1, hj2, hO, hx⟩
  have HE10 : Hid (Exc rb w w10) := HE9.out.trans hE
  have HK10 : Hid (Kb3 32 w10 w.heap.size (.int .i64 0) (.int .i64 0) (.int .i64 0)) := HK9.out.exc hE (by omega)
  have HR10 : Hid (Rdr w10 rb (.slice a ts.length cap) (j : Int) dp wr) := hR
  have HJ : Hid (j ≤ ts.length ∧ NxO ts (i + 1 + 1) dp false 4 j wr ∧ (kdV ts (i + 1 + 1) dp false = 4 → x1 = (tkz ts (i + 1 + 1)).1.fn)) := ⟨hj2, hO, hx⟩
  clear hR hE hj1 hj2 hO hx
  have hfl2 := fld_fn x0 x1 x2 tx x4
  have d0 := HK10.out.c0
  have f0 := HK10.out.fr 0
  have d1 := HK10.out.c1
  have f1 := HK10.out.fr 1
  have d2 := HK10.out.c2
  have f2 := HK10.out.fr 2
  go_wp2_with fail
  have F := HK10.out.set (.int .i64 4) (.int .i64 (tkz ts i).1.fn) (.int .i64 x1)
  have g0 := F.c0
  have g1 := F.c1
  have g2 := F.c2
  exact bodyPost_ret (v := .agg #[.int .i64 4, .int .i64 (tkz ts i).1.fn, .int .i64 x1]) (by simp [results, Tryz.results124, go_sem, g0, g1, g2]) rfl ⟨x1, j, wr, rfl, exc_set3 HE10.out (Nat.le_refl _) _ _ _, HJ.out.1, HJ.out.2.1, HR10.out.set3 (by omega) _ _ _, HJ.out.2.2⟩
set_option maxRecDepth 100000 in
set_option maxHeartbeats 4000000 in
theorem gl_plain4 (rb : Nat) (a : Option Addr) (cap : Nat) (ts : List TkA) (hG : RgT ts) (hl : ts.length ≤ 1000) (i : Nat) (hi : i ≤ ts.length) (dp : Int) (hk : kdV ts i dp false = 4) (h1k : kdV ts (i + 1) dp false = 4) (hf33 : (tkz ts (i + 1)).1.fn ≠ 33) (hf34 : (tkz ts (i + 1)).1.fn ≠ 34) (h13 : kdV ts (i + 1) dp false ≠ 13) (h12 : kdV ts (i + 1) dp false ≠ 12) (w : World) (hR : Rdr w rb (.slice a ts.length cap) (i : Nat) dp false) (hT : IsTk rb w a ts) :
    Calls Tryz.prog 124 #[.pointer (some ⟨rb, 0, none⟩)] w fun e w' => e = .returned (.agg #[.int .i64 0, .int .i64 (tkz ts i).1.fn, .int .i64 0]) ∧ Exc rb w w' ∧ Rdr w' rb (.slice a ts.length cap) ((i + 1 : Nat) : Int) dp false := by
  obtain ⟨_, hlt, _⟩ := kdV_pos hi (by rw [hk]; decide)
  have HR : Hid (Rdr w rb (.slice a ts.length cap) (i : Nat) dp false) := hR
  have HT : Hid (IsTk rb w a ts) := hT
  have hbs : rb < w.heap.size := hR.lt
  have hn := fun W h1 h2 => next_yes 4 rb a cap ts hl i hi dp false hk (by decide) W h1 h2
  have q0 := fun W h1 h2 => has_fn 4 33 rb a cap ts hl (i + 1) hlt dp false h1k (by decide) hf33 W h1 h2
  have q1 := fun W h1 h2 => has_fn 4 34 rb a cap ts hl (i + 1) hlt dp false h1k (by decide) hf34 W h1 h2
  have q2 := fun W h1 h2 => has_kd 13 0 rb a cap ts hl (i + 1) hlt dp false (h13) W h1 h2
  have q3 := fun W h1 h2 => has_kd 12 0 rb a cap ts hl (i + 1) hlt dp false (h12) W h1 h2
  clear hR hT hk h1k hf33 hf34 h13 h12
  have HK0 : Hid (Kb3 32 (w.alloc (.cells #[.int .i64 0, .int .i64 0, .int .i64 0] 32)) w.heap.size (.int .i64 0) (.int .i64 0) (.int .i64 0)) := Kb3.new w _ _ _ _
  have HE0 : Hid (Exc rb w (w.alloc (.cells #[.int .i64 0, .int .i64 0, .int .i64 0] 32))) := (Exc.refl rb w).alloc _
  have HR0 : Hid (Rdr (w.alloc (.cells #[.int .i64 0, .int .i64 0, .int .i64 0] 32)) rb (.slice a ts.length cap) (i : Nat) dp false) := HR.out.al _
  go_enter Tryz.func124, Tryz.ntmps124
  go_wp2_with fail
  generalize (w.alloc (.cells #[.int .i64 0, .int .i64 0, .int .i64 0] 32)) = W0 at *
  refine (hn _ HR0.out (HT.out.go (HE0.out.below (by omega)))).mono ?_
  rintro e w1 ⟨rfl, hR1, hE1⟩
  have HE1 : Hid (Exc rb w w1) := HE0.out.trans hE1
  have HK1 : Hid (Kb3 32 w1 w.heap.size (.int .i64 0) (.int .i64 0) (.int .i64 0)) := HK0.out.exc hE1 (by omega)
  have HR1 : Hid (Rdr w1 rb (.slice a ts.length cap) ((i + 1 : Nat) : Int) dp false) := hR1
  clear hR1 hE1 hn
  simp only [tkV, TkA.s]
  have hfld := fld_fn (tkz ts i).1.kind (tkz ts i).1.fn (tkz ts i).1.num ⟨(tkz ts i).1.text.toArray⟩ (tkz ts i).2
  go_wp2_with fail
  refine (glyph_any18 33 w1).mono ?_
  rintro e w2 ⟨rfl, hB⟩
  have HE2 : Hid (Exc rb w w2) := HE1.out.trans (Exc.bel hB (Nat.le_refl _))
  have HK2 : Hid (Kb3 32 w2 w.heap.size (.int .i64 0) (.int .i64 0) (.int .i64 0)) := HK1.out.exc (rb := rb) (Exc.bel hB (Nat.le_refl _)) (by omega)
  have HR2 : Hid (Rdr w2 rb (.slice a ts.length cap) ((i + 1 : Nat) : Int) dp false) := HR1.out.bel hB
  clear hB
  go_wp2_with fail
  refine (q0 w2 HR2.out (HT.out.go (HE2.out.below (by omega)))).mono ?_
  rintro e w3 ⟨rfl, hR, hE⟩
  have HE3 : Hid (Exc rb w w3) := HE2.out.trans hE
  have HK3 : Hid (Kb3 32 w3 w.heap.size (.int .i64 0) (.int .i64 0) (.int .i64 0)) := HK2.out.exc hE (by omega)
  have HR3 : Hid (Rdr w3 rb (.slice a ts.length cap) ((i + 1 : Nat) : Int) dp false) := hR
  clear hR hE q0
  go_wp2_with fail
  refine (glyph_any18 34 w3).mono ?_
  rintro e w4 ⟨rfl, hB⟩
  have HE4 : Hid (Exc rb w w4) := HE3.out.trans (Exc.bel hB (Nat.le_refl _))
  have HK4 : Hid (Kb3 32 w4 w.heap.size (.int .i64 0) (.int .i64 0) (.int .i64 0)) := HK3.out.exc (rb := rb) (Exc.bel hB (Nat.le_refl _)) (by omega)
  have HR4 : Hid (Rdr w4 rb (.slice a ts.length cap) ((i + 1 : Nat) : Int) dp false) := HR3.out.bel hB
  clear hB
  go_wp2_with fail
  refine (q1 w4 HR4.out (HT.out.go (HE4.out.below (by omega)))).mono ?_
  rintro e w5 ⟨rfl, hR, hE⟩
  have HE5 : Hid (Exc rb w w5) := HE4.out.trans hE
  have HK5 : Hid (Kb3 32 w5 w.heap.size (.int .i64 0) (.int .i64 0) (.int .i64 0)) := HK4.out.exc hE (by omega)
  have HR5 : Hid (Rdr w5 rb (.slice a ts.length cap) ((i + 1 : Nat) : Int) dp false) := hR
  clear hR hE q1
  go_wp2_with fail
  refine (sgn_any18 13 w5).mono ?_
  rintro e w6 ⟨rfl, hB⟩
  have HE6 : Hid (Exc rb w w6) := HE5.out.trans (Exc.bel hB (Nat.le_refl _))
  have HK6 : Hid (Kb3 32 w6 w.heap.size (.int .i64 0) (.int .i64 0) (.int .i64 0)) := HK5.out.exc (rb := rb) (Exc.bel hB (Nat.le_refl _)) (by omega)
  have HR6 : Hid (Rdr w6 rb (.slice a ts.length cap) ((i + 1 : Nat) : Int) dp false) := HR5.out.bel hB
  clear hB
  go_wp2_with fail
  refine (q2 w6 HR6.out (HT.out.go (HE6.out.below (by omega)))).mono ?_
  rintro e w7 ⟨rfl, hR, hE⟩
  have HE7 : Hid (Exc rb w w7) := HE6.out.trans hE
  have HK7 : Hid (Kb3 32 w7 w.heap.size (.int .i64 0) (.int .i64 0) (.int .i64 0)) := HK6.out.exc hE (by omega)
  have HR7 : Hid (Rdr w7 rb (.slice a ts.length cap) ((i + 1 : Nat) : Int) dp false) := hR
  clear hR hE q2
  go_wp2_with fail
  refine (sgn_any18 12 w7).mono ?_
  rintro e w8 ⟨rfl, hB⟩
  have HE8 : Hid (Exc rb w w8) := HE7.out.trans (Exc.bel hB (Nat.le_refl _))
  have HK8 : Hid (Kb3 32 w8 w.heap.size (.int .i64 0) (.int .i64 0) (.int .i64 0)) := HK7.out.exc (rb := rb) (Exc.bel hB (Nat.le_refl _)) (by omega)
  have HR8 : Hid (Rdr w8 rb (.slice a ts.length cap) ((i + 1 : Nat) : Int) dp false) := HR7.out.bel hB
  clear hB
  go_wp2_with fail
  refine (q3 w8 HR8.out (HT.out.go (HE8.out.below (by omega)))).mono ?_
  rintro e w9 ⟨rfl, hR, hE⟩
  have HE9 : Hid (Exc rb w w9) := HE8.out.trans hE
  have HK9 : Hid (Kb3 32 w9 w.heap.size (.int .i64 0) (.int .i64 0) (.int .i64 0)) := HK8.out.exc hE (by omega)
  have HR9 : Hid (Rdr w9 rb (.slice a ts.length cap) ((i + 1 : Nat) : Int) dp false) := hR
  clear hR hE q3
  have d0 := HK9.out.c0
  have f0 := HK9.out.fr 0
  have d1 := HK9.out.c1
  have f1 := HK9.out.fr 1
  have d2 := HK9.out.c2
  have f2 := HK9.out.fr 2
  go_wp2_with fail
  have F := HK9.out.set (.int .i64 0) (.int .i64 (tkz ts i).1.fn) (.int .i64 0)
  have g0 := F.c0
  have g1 := F.c1
  have g2 := F.c2
  exact bodyPost_ret (v := .agg #[.int .i64 0, .int .i64 (tkz ts i).1.fn, .int .i64 0]) (by simp [results, Tryz.results124, go_sem, g0, g1, g2]) rfl ⟨rfl, exc_set3 HE9.out (Nat.le_refl _) _ _ _, HR9.out.set3 (by omega) _ _ _⟩
set_option maxRecDepth 100000 in
set_option maxHeartbeats 4000000 in
theorem gl_plain (rb : Nat) (a : Option Addr) (cap : Nat) (ts : List TkA) (hG : RgT ts) (hl : ts.length ≤ 1000) (i : Nat) (hi : i ≤ ts.length) (dp : Int) (hk : kdV ts i dp false = 4) (h4 : kdV ts (i + 1) dp false ≠ 4) (h13 : kdV ts (i + 1) dp false ≠ 13) (h12 : kdV ts (i + 1) dp false ≠ 12) (w : World) (hR : Rdr w rb (.slice a ts.length cap) (i : Nat) dp false) (hT : IsTk rb w a ts) :
    Calls Tryz.prog 124 #[.pointer (some ⟨rb, 0, none⟩)] w fun e w' => e = .returned (.agg #[.int .i64 0, .int .i64 (tkz ts i).1.fn, .int .i64 0]) ∧ Exc rb w w' ∧ Rdr w' rb (.slice a ts.length cap) ((i + 1 : Nat) : Int) dp false := by
  obtain ⟨_, hlt, _⟩ := kdV_pos hi (by rw [hk]; decide)
  have HR : Hid (Rdr w rb (.slice a ts.length cap) (i : Nat) dp false) := hR
  have HT : Hid (IsTk rb w a ts) := hT
  have hbs : rb < w.heap.size := hR.lt
  have hn := fun W h1 h2 => next_yes 4 rb a cap ts hl i hi dp false hk (by decide) W h1 h2
  have q0 := fun W h1 h2 => has_kd 4 33 rb a cap ts hl (i + 1) hlt dp false (h4) W h1 h2
  have q1 := fun W h1 h2 => has_kd 4 34 rb a cap ts hl (i + 1) hlt dp false (h4) W h1 h2
  have q2 := fun W h1 h2 => has_kd 13 0 rb a cap ts hl (i + 1) hlt dp false (h13) W h1 h2
  have q3 := fun W h1 h2 => has_kd 12 0 rb a cap ts hl (i + 1) hlt dp false (h12) W h1 h2
  clear hR hT hk h4 h13 h12
  have HK0 : Hid (Kb3 32 (w.alloc (.cells #[.int .i64 0, .int .i64 0, .int .i64 0] 32)) w.heap.size (.int .i64 0) (.int .i64 0) (.int .i64 0)) := Kb3.new w _ _ _ _
  have HE0 : Hid (Exc rb w (w.alloc (.cells #[.int .i64 0, .int .i64 0, .int .i64 0] 32))) := (Exc.refl rb w).alloc _
  have HR0 : Hid (Rdr (w.alloc (.cells #[.int .i64 0, .int .i64 0, .int .i64 0] 32)) rb (.slice a ts.length cap) (i : Nat) dp false) := HR.out.al _
  go_enter Tryz.func124, Tryz.ntmps124
  go_wp2_with fail
  generalize (w.alloc (.cells #[.int .i64 0, .int .i64 0, .int .i64 0] 32)) = W0 at *
  refine (hn _ HR0.out (HT.out.go (HE0.out.below (by omega)))).mono ?_
  rintro e w1 ⟨rfl, hR1, hE1⟩
  have HE1 : Hid (Exc rb w w1) := HE0.out.trans hE1
  have HK1 : Hid (Kb3 32 w1 w.heap.size (.int .i64 0) (.int .i64 0) (.int .i64 0)) := HK0.out.exc hE1 (by omega)
  have HR1 : Hid (Rdr w1 rb (.slice a ts.length cap) ((i + 1 : Nat) : Int) dp false) := hR1
  clear hR1 hE1 hn
  simp only [tkV, TkA.s]
  have hfld := fld_fn (tkz ts i).1.kind (tkz ts i).1.fn (tkz ts i).1.num ⟨(tkz ts i).1.text.toArray⟩ (tkz ts i).2
  go_wp2_with fail
  refine (glyph_any18 33 w1).mono ?_
  rintro e w2 ⟨rfl, hB⟩
  have HE2 : Hid (Exc rb w w2) := HE1.out.trans (Exc.bel hB (Nat.le_refl _))
  have HK2 : Hid (Kb3 32 w2 w.heap.size (.int .i64 0) (.int .i64 0) (.int .i64 0)) := HK1.out.exc (rb := rb) (Exc.bel hB (Nat.le_refl _)) (by omega)
  have HR2 : Hid (Rdr w2 rb (.slice a ts.length cap) ((i + 1 : Nat) : Int) dp false) := HR1.out.bel hB
  clear hB
  go_wp2_with fail
  refine (q0 w2 HR2.out (HT.out.go (HE2.out.below (by omega)))).mono ?_
  rintro e w3 ⟨rfl, hR, hE⟩
  have HE3 : Hid (Exc rb w w3) := HE2.out.trans hE
  have HK3 : Hid (Kb3 32 w3 w.heap.size (.int .i64 0) (.int .i64 0) (.int .i64 0)) := HK2.out.exc hE (by omega)
  have HR3 : Hid (Rdr w3 rb (.slice a ts.length cap) ((i + 1 : Nat) : Int) dp false) := hR
  clear hR hE q0
  go_wp2_with fail
  refine (glyph_any18 34 w3).mono ?_
  rintro e w4 ⟨rfl, hB⟩
  have HE4 : Hid (Exc rb w w4) := HE3.out.trans (Exc.bel hB (Nat.le_refl _))
  have HK4 : Hid (Kb3 32 w4 w.heap.size (.int .i64 0) (.int .i64 0) (.int .i64 0)) := HK3.out.exc (rb := rb) (Exc.bel hB (Nat.le_refl _)) (by omega)
  have HR4 : Hid (Rdr w4 rb (.slice a ts.length cap) ((i + 1 : Nat) : Int) dp false) := HR3.out.bel hB
  clear hB
  go_wp2_with fail
  refine (q1 w4 HR4.out (HT.out.go (HE4.out.below (by omega)))).mono ?_
  rintro e w5 ⟨rfl, hR, hE⟩
  have HE5 : Hid (Exc rb w w5) := HE4.out.trans hE
  have HK5 : Hid (Kb3 32 w5 w.heap.size (.int .i64 0) (.int .i64 0) (.int .i64 0)) := HK4.out.exc hE (by omega)
  have HR5 : Hid (Rdr w5 rb (.slice a ts.length cap) ((i + 1 : Nat) : Int) dp false) := hR
  clear hR hE q1
  go_wp2_with fail
  refine (sgn_any18 13 w5).mono ?_
  rintro e w6 ⟨rfl, hB⟩
  have HE6 : Hid (Exc rb w w6) := HE5.out.trans (Exc.bel hB (Nat.le_refl _))
  have HK6 : Hid (Kb3 32 w6 w.heap.size (.int .i64 0) (.int .i64 0) (.int .i64 0)) := HK5.out.exc (rb := rb) (Exc.bel hB (Nat.le_refl _)) (by omega)
  have HR6 : Hid (Rdr w6 rb (.slice a ts.length cap) ((i + 1 : Nat) : Int) dp false) := HR5.out.bel hB
  clear hB
  go_wp2_with fail
  refine (q2 w6 HR6.out (HT.out.go (HE6.out.below (by omega)))).mono ?_
  rintro e w7 ⟨rfl, hR, hE⟩
  have HE7 : Hid (Exc rb w w7) := HE6.out.trans hE
  have HK7 : Hid (Kb3 32 w7 w.heap.size (.int .i64 0) (.int .i64 0) (.int .i64 0)) := HK6.out.exc hE (by omega)
  have HR7 : Hid (Rdr w7 rb (.slice a ts.length cap) ((i + 1 : Nat) : Int) dp false) := hR
  clear hR hE q2
  go_wp2_with fail
  refine (sgn_any18 12 w7).mono ?_
  rintro e w8 ⟨rfl, hB⟩
  have HE8 : Hid (Exc rb w w8) := HE7.out.trans (Exc.bel hB (Nat.le_refl _))
  have HK8 : Hid (Kb3 32 w8 w.heap.size (.int .i64 0) (.int .i64 0) (.int .i64 0)) := HK7.out.exc (rb := rb) (Exc.bel hB (Nat.le_refl _)) (by omega)
  have HR8 : Hid (Rdr w8 rb (.slice a ts.length cap) ((i + 1 : Nat) : Int) dp false) := HR7.out.bel hB
  clear hB
  go_wp2_with fail
  refine (q3 w8 HR8.out (HT.out.go (HE8.out.below (by omega)))).mono ?_
  rintro e w9 ⟨rfl, hR, hE⟩
  have HE9 : Hid (Exc rb w w9) := HE8.out.trans hE
  have HK9 : Hid (Kb3 32 w9 w.heap.size (.int .i64 0) (.int .i64 0) (.int .i64 0)) := HK8.out.exc hE (by omega)
  have HR9 : Hid (Rdr w9 rb (.slice a ts.length cap) ((i + 1 : Nat) : Int) dp false) := hR
  clear hR hE q3
  have d0 := HK9.out.c0
  have f0 := HK9.out.fr 0
  have d1 := HK9.out.c1
  have f1 := HK9.out.fr 1
  have d2 := HK9.out.c2
  have f2 := HK9.out.fr 2
  go_wp2_with fail
  have F := HK9.out.set (.int .i64 0) (.int .i64 (tkz ts i).1.fn) (.int .i64 0)
  have g0 := F.c0
  have g1 := F.c1
  have g2 := F.c2
  exact bodyPost_ret (v := .agg #[.int .i64 0, .int .i64 (tkz ts i).1.fn, .int .i64 0]) (by simp [results, Tryz.results124, go_sem, g0, g1, g2]) rfl ⟨rfl, exc_set3 HE9.out (Nat.le_refl _) _ _ _, HR9.out.set3 (by omega) _ _ _⟩
end Go.Proofs.YtgjgbgllhbdodaaGreatDoor
