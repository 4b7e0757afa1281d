/-
  The reader of words: what reading tells, wherever it stands; a Glyph and what belongs to it.
-/
import Derived.Test.YtgjgbgllhbdodaaGreatDoorTpe
namespace Go.Proofs.YtgjgbgllhbdodaaGreatDoor
open Go.RowKit Go.Lib
set_option linter.unusedVariables false

def NxO (ts : List TkA) (i : Nat) (dp : Int) (wr : Bool) (k : Int) (j : Nat) (wr' : Bool) : Prop :=
  (kdV ts i dp wr = k → j = i + 1 ∧ wr' = wr) ∧ (kdV ts i dp wr ≠ k → j = i ∧ wr' = true)
/-- A word read, if it is of this kind. -/
def NxA (rb : Nat) (v : Value) (ts : List TkA) (i : Nat) (dp : Int) (wr : Bool) (k : Int) (w : World) (e : Ending) (w' : World) : Prop :=
  ∃ (x0 x1 x2 : Int) (t : ByteArray) (x4 : Int) (j : Nat) (wr' : Bool), e = .returned (.agg #[.int .i64 x0, .int .i64 x1, .int .i64 x2, .string t, .int .i64 x4]) ∧ Rdr w' rb v (j : Int) dp wr' ∧ Exc rb w w' ∧ i ≤ j ∧ j ≤ ts.length ∧ NxO ts i dp wr k j wr' ∧ (kdV ts i dp wr = k → x1 = (tkz ts i).1.fn)
theorem next_any18 (k : Int) (h0 : k ≠ 0) (rb : Nat) (a : Option Addr) (cap : Nat) (ts : List TkA) (hl : ts.length ≤ 1000) (i : Nat) (hi : i ≤ ts.length) (dp : Int) (wr : Bool) (w : World) (hR : Rdr w rb (.slice a ts.length cap) (i : Nat) dp wr) (hT : IsTk rb w a ts) :
    Calls Tryz.prog 41 #[.pointer (some ⟨rb, 0, none⟩), .int .i64 k] w (NxA rb (.slice a ts.length cap) ts i dp wr k w) := by
  by_cases hk : kdV ts i dp wr = k
  · obtain ⟨_, hlt, _⟩ := kdV_pos hi (by rw [hk]; exact h0)
    refine (next_yes k rb a cap ts hl i hi dp wr hk h0 w hR hT).mono ?_
    rintro e w' ⟨rfl, h1, h2⟩
    exact ⟨_, _, _, _, _, i + 1, wr, rfl, h1, h2, by omega, by omega, ⟨fun _ => ⟨rfl, rfl⟩, fun h => absurd hk h⟩, fun _ => rfl⟩
  · refine (next_no k rb a cap ts hl i hi dp wr hk w hR hT).mono ?_
    rintro e w' ⟨rfl, h1, h2⟩
    exact ⟨0, 0, 0, ⟨#[]⟩, 0, i, true, rfl, h1, h2, by omega, by omega, ⟨fun h => absurd h hk, fun _ => ⟨rfl, rfl⟩⟩, fun h => absurd h hk⟩
/-- Right words: none but a Glyph has a function. -/
def RgT (ts : List TkA) : Prop := ∀ j, j < ts.length → (tkz ts j).1.kind ≠ 4 → (tkz ts j).1.fn = 0
/-- A word that is no Glyph is asked for: it is there, or not. -/
theorem has_sgn (k : Int) (h0 : k ≠ 0) (h4 : k ≠ 4) (rb : Nat) (a : Option Addr) (cap : Nat) (ts : List TkA) (hG : RgT ts) (hl : ts.length ≤ 1000) (i : Nat) (hi : i ≤ ts.length) (dp : Int) (wr : Bool) (hk : kdV ts i dp wr = k) (w : World) (hR : Rdr w rb (.slice a ts.length cap) (i : Nat) dp wr) (hT : IsTk rb w a ts) :
    Calls Tryz.prog 127 #[.pointer (some ⟨rb, 0, none⟩), .agg #[.int .i64 k, .int .i64 0, .int .i64 0, .string ⟨#[]⟩, .int .i64 0]] w (HsP rb (.slice a ts.length cap) (i + 1) dp wr w true) := by
  obtain ⟨_, hlt, hkd⟩ := kdV_pos hi (by rw [hk]; exact h0)
  exact has_yes k 0 rb a cap ts hl i hi dp wr hk h0 (hG i hlt (by rw [← hkd, hk]; exact h4)) w hR hT
theorem kdV_wr (ts : List TkA) (j : Nat) (dp : Int) : kdV ts j dp true = 0 := if_pos (.inl rfl)
/-- It stands where it can go no further, so many words ahead of the end. -/
def DedO (ts : List TkA) (j : Nat) (dp : Int) (wr : Bool) (k : Nat) : Prop := j + k = ts.length ∧ kdV ts j dp wr = 0 ∧ (k = 0 → wr = true)
theorem DedO.of {ts : List TkA} {j : Nat} (hj : j ≤ ts.length) (dp : Int) {k : Nat} (hk : k = ts.length - j) : DedO ts j dp true k := ⟨by omega, kdV_wr _ _ _, fun _ => rfl⟩
def GlL (ts : List TkA) (x0 x1 x2 : Int) (dp : Int) (j : Nat) (wr : Bool) : Rf → Prop
  | .ok ((ac, n, body), r) => ac = ⟨x0, x1, x2⟩ ∧ n = 0 ∧ body = [] ∧ r = lx ts j ∧ wr = false
  | .error k => DedO ts j dp wr k
/-- What reading a function's signs tells: x, by descent. -/
def GlE (rb : Nat) (a : Option Addr) (cap : Nat) (ts : List TkA) (dp : Int) (i : Nat) (x : Rf) (w : World) (e : Ending) (w' : World) : Prop :=
  ∃ (x0 x1 x2 : Int) (j : Nat) (wr : Bool), e = .returned (.agg #[.int .i64 x0, .int .i64 x1, .int .i64 x2]) ∧ Exc rb w w' ∧ Rdr w' rb (.slice a ts.length cap) (j : Int) dp wr ∧ i < j ∧ j ≤ ts.length ∧ GlL ts x0 x1 x2 dp j wr x
end Go.Proofs.YtgjgbgllhbdodaaGreatDoor
