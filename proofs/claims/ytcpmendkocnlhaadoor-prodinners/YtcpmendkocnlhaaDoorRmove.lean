/-
  What the reference makes: an array that is laid, and filled cell by cell.
-/
import Derived.Deep.DeepCutAuto
import Derived.Test.YtcpmendkocnlhaaDoorRcopy
import Derived.Test.YtcpmendkocnlhaaDoorApps
namespace Go.Proofs.YtcpmendkocnlhaaDoor
open Go.RowKit
set_option linter.unusedVariables false

/-- A slice that leads to these integers, in a block from lo on and below hi that is not B. -/
def SepInts (lo hi B : Nat) (W : World) (a : Option Addr) (zs : List Int) : Prop :=
  zs = [] ∨ ∃ b off, a = some ⟨b, off, none⟩ ∧ lo ≤ b ∧ b ≠ B ∧ b < hi ∧ (∀ j, j < zs.length → W.cell? ⟨b, off + j, none⟩ = some (.int .i64 (nth zs j))) ∧ ∀ j, W.frozen? ⟨b, off + j, none⟩ = false
section
variable {lo hi B : Nat} {W : World} {a : Option Addr} {zs : List Int}
theorem SepInts.new (h : hi ≤ W.heap.size) : SepInts lo hi B W a zs → NewInts lo W a zs
  | .inl e => .inl e
  | .inr ⟨b, off, e, h0, _, hb, hc, hz⟩ => .inr ⟨b, off, e, h0, by omega, hc, hz⟩
theorem SepInts.of_new (h : NewInts lo W a zs) (hB : B < lo ∨ W.heap.size ≤ B) : SepInts lo W.heap.size B W a zs := by
  rcases h with e | ⟨b, off, e, h0, hb, hc, hz⟩
  · exact .inl e
  · exact .inr ⟨b, off, e, h0, by omega, hb, hc, hz⟩
theorem SepInts.low {lo' : Nat} (h : lo' ≤ lo) : SepInts lo hi B W a zs → SepInts lo' hi B W a zs
  | .inl e => .inl e
  | .inr ⟨b, off, e, h0, h1, hb, hc, hz⟩ => .inr ⟨b, off, e, by omega, h1, hb, hc, hz⟩
theorem SepInts.high {hi' : Nat} (h : hi ≤ hi') : SepInts lo hi B W a zs → SepInts lo hi' B W a zs
  | .inl e => .inl e
  | .inr ⟨b, off, e, h0, h1, hb, hc, hz⟩ => .inr ⟨b, off, e, h0, h1, by omega, hc, hz⟩
theorem SepInts.bel {W' : World} (hB : Below hi W W') : SepInts lo hi B W a zs → SepInts lo hi B W' a zs
  | .inl e => .inl e
  | .inr ⟨b, off, e, h0, h1, hb, hc, hz⟩ => .inr ⟨b, off, e, h0, h1, hb, fun j hj => (hB.cell (p := ⟨b, off + j, none⟩) hb).trans (hc j hj), fun j => (hB.frozen (p := ⟨b, off + j, none⟩) hb).trans (hz j)⟩
theorem SepInts.al (h : SepInts lo hi B W a zs) (hh : hi ≤ W.heap.size) (o : Obj) : SepInts lo hi B (W.alloc o) a zs := h.bel ((Below.refl _ W).alloc hh o)
theorem SepInts.dr (h : SepInts lo hi B W a zs) : SepInts lo hi B W.drew a zs := h
theorem SepInts.set (j : Nat) (v : Value) : SepInts lo hi B W a zs → SepInts lo hi B (W.setCell ⟨B, j, none⟩ v) a zs
  | .inl e => .inl e
  | .inr ⟨b, off, e, h0, h1, hb, hc, hz⟩ => .inr ⟨b, off, e, h0, h1, hb, fun i hi => (World.cell?_of_block (Below.heap_setCell W ⟨B, j, none⟩ v b h1)).trans (hc i hi), fun i => by rw [World.frozen?_setCell]; exact hz i⟩
end
/-- An array that was laid behind v1: its block, its shape in memory of its own, no cells yet. -/
def Out5 (v1 : World) (B : Nat) (c : Bool) (g : Option Addr) (gc : Nat) (sz : List Int) (wc : World) : Prop :=
  v1.heap.size ≤ B ∧ Abx wc B (.bool c) (.slice g sz.length gc) (.slice none 0 0) ∧ SepInts v1.heap.size wc.heap.size B wc g sz ∧ Below v1.heap.size v1 wc
theorem out_a {v1 w2 : World} {c : Bool} {g : Option Addr} {gc : Nat} {sz : List Int} (hG : NewInts v1.heap.size w2 g sz) (hB : Below v1.heap.size v1 w2) :
    Out5 v1 w2.heap.size c g gc sz (w2.alloc (.cells #[.bool c, .slice g sz.length gc, .slice none 0 0] 25)) :=
  ⟨hB.size, Abx.new w2 _ _ _, ((SepInts.of_new hG (.inr (Nat.le_refl _))).al (Nat.le_refl _) _).high (by simp), hB.alloc hB.size _⟩
theorem out_b {v1 w2 : World} {c : Bool} {g : Option Addr} {gc : Nat} {sz : List Int} (hG : NewInts (v1.heap.size + 1) w2 g sz) (hR : Abx w2 v1.heap.size (.bool false) (.slice none 0 0) (.slice none 0 0)) (hB : Below v1.heap.size v1 w2) :
    Out5 v1 v1.heap.size c g gc sz (((w2.setCell ⟨v1.heap.size, 0, none⟩ (.bool c)).setCell ⟨v1.heap.size, 1, none⟩ (.slice g sz.length gc)).setCell ⟨v1.heap.size, 2, none⟩ (.slice none 0 0)) :=
  ⟨Nat.le_refl _, hR.set3 _ _ _, (((((SepInts.of_new hG (.inl (Nat.lt_succ_self _))).low (Nat.le_succ _)).set 0 _).set 1 _).set 2 _).high (by rw [size_set3]; exact Nat.le_refl _), bel_set3 hB (Nat.le_refl _) _ _ _⟩
theorem where_n (a : Option Addr) (cap : Nat) (zs : List Int) (a' : Option Addr) (cap' n : Nat) (ts : List Int) (hn : ts.length = n) (P : Nat) (hP : place zs ts = P) (hreach : zs.length ≤ 9223372036854775807) (he : errOf zs = 0) (hins : insB zs ts = true) (n₀ : Nat) (w : World) (hI : IsInts n₀ w a zs) (hI' : IsInts n₀ w a' ts) :
    Calls Tryd.prog 16 #[.slice a zs.length cap, .slice a' n cap'] w fun e w' => e = .returned (.int .i64 (P : Nat)) ∧ w' = w := by
  subst hn
  rw [← hP]
  exact where_any a cap zs a' cap' ts hreach he hins n₀ w hI hI'
theorem put_at {lo : Nat} {W : World} {b off : Nat} {zs : List Int} (h : NewInts lo W (some ⟨b, off, none⟩) zs) {i : Nat} (hi : i < zs.length) (x : Int) : IsInts W.heap.size (W.setCell ⟨b, off + i, none⟩ (.int .i64 x)) (some ⟨b, off, none⟩) (zs.set i x) := (h.mid.put hi x).ints
theorem take_lenR (zs : List Int) {k : Nat} (h : k ≤ zs.length) : (zs.take k).length = k := by simp; omega
/-- What the reference tells: an array and a number. -/
def UR (e : Int) (c : Bool) (S D : List Int) (w : World) (r : Ending) (w' : World) : Prop :=
  ∃ xa xc ya yc, r = .returned (.tuple #[.agg #[.bool c, .slice xa S.length xc, .slice ya D.length yc], .int .i64 e]) ∧ NewInts w.heap.size w' xa S ∧ NewInts w.heap.size w' ya D ∧ Below w.heap.size w w'
theorem UR.no {e : Int} {c : Bool} {S D : List Int} {w w' : World} {e' : Int} (h : e = e') (h0 : e' ≠ 0) (hB : Below w.heap.size w w') : UR e (onc e c) (onl e S) (onl e D) w (.returned (.tuple #[.agg #[.bool false, .slice none 0 0, .slice none 0 0], .int .i64 e'])) w' := by
  subst h
  rw [onc_no h0, onl_no h0, onl_no h0]
  exact ⟨none, 0, none, 0, rfl, .inl rfl, .inl rfl, hB⟩
theorem UR.ok {e : Int} {c : Bool} {S D : List Int} {w w' : World} {xa : Option Addr} {xc : Nat} {ya : Option Addr} {yc : Nat} (h : e = 0) (hX : NewInts w.heap.size w' xa S) (hY : NewInts w.heap.size w' ya D) (hB : Below w.heap.size w w') :
    UR e (onc e c) (onl e S) (onl e D) w (.returned (.tuple #[.agg #[.bool c, .slice xa S.length xc, .slice ya D.length yc], .int .i64 0])) w' := by
  subst h
  exact ⟨xa, xc, ya, yc, rfl, hX, hY, hB⟩
end Go.Proofs.YtcpmendkocnlhaaDoor
