/-
  What the walk of PickAll takes besides.
-/
import Derived.Test.YtlflacoiidhgoaaPatw
import Derived.Test.YtlflacoiidhgoaaPika
import Derived.Test.YtlflacoiidhgoaaIotc
import Derived.Test.YtlflacoiidhgoaaPown
import Derived.Test.YtlflacoiidhgoaaPikx
import Derived.Test.YtlflacoiidhgoaaRevb
namespace Go.Proofs.Ytlflacoiidhgoaa
open Go.RowKit
set_option linter.unusedVariables false

theorem ioN_iot (n : Nat) : ioN (n : Int) = iot n := by unfold ioN iot; rw [Int.toNat_natCast]; rfl
theorem one64_7 {n : Nat} (h : n ≤ 4096) : ∀ j, In64 (nth [(n : Int)] j) := fun j => by
  cases j with
  | zero => show In64 (n : Int); unfold In64; omega
  | succ j => show In64 0; unfold In64; decide
theorem rvb_ok (c : Bool) (sa : Option Addr) (sc : Nat) (sz : List Int) (l : Nat) (hl : sz.length = l) (da : Option Addr) (dc : Nat) (dz : List Int) (w : World) (h1 : l ≤ 9223372036854775807) (h2 : dz.length ≤ 9223372036854775807) (hs : IsC w.heap.size w sa sz sc) (hd : IsInts w.heap.size w da dz) (T : ∀ j, In64 (nth dz j)) (D : List Int) (H : CRvB) (x : Int) (hx : In64 x) (h : axE x c sz dz = 0 ∧ rvG x sz dz = D) :
    Calls Try.prog 16 #[.int .i64 x, .agg #[.bool c, .slice sa l sc, .slice da dz.length dc]] w (OkB c sz D w) := by
  subst hl
  exact (H x c sa sc sz da dc dz w hx h1 h2 hs hd T).mono fun r w' h' => UB.ok ⟨h.1, rfl, h.2⟩ h'
theorem rv_facts {x : Int} {c : Bool} {s dz : List Int} (h : axE x c s dz = 0) (T : ∀ j, In64 (nth dz j)) : s.length ≤ 6 ∧ (rvG x s dz).length ≤ 4096 ∧ ∀ j, In64 (nth (rvG x s dz) j) := by
  have he := (axE_err h).1
  refine ⟨(errOf_zero.1 he).1, ?_, GA_64 T⟩
  unfold rvG; rw [GA_length]; exact (errS he).2
theorem bya_next {bs : List ArV} {sz : List Int} {k n : Nat} (h : bya bs = ioL (sz.take k)) (hk : k < sz.length) (hn : nth sz k = (n : Int)) (xa : Option Addr) (xc : Nat) (ya : Option Addr) (yc : Nat) : bya (bs ++ [(false, (((xa, xc), [(n : Int)]), ((ya, yc), iot n)))]) = ioL (sz.take (k + 1)) := by
  have e : sz.take (k + 1) = sz.take k ++ [(n : Int)] := by rw [List.take_succ_eq_append_getElem hk, ← nth_get sz k hk, hn]
  have e1 : bya (bs ++ [(false, (((xa, xc), [(n : Int)]), ((ya, yc), iot n)))]) = bya bs ++ [(false, ([(n : Int)], iot n))] := by simp [bya, ArV.ar]
  have e2 : ioL (sz.take k ++ [(n : Int)]) = ioL (sz.take k) ++ [(false, ([(n : Int)], ioN (n : Int)))] := by simp [ioL]
  rw [e, e1, e2, h, ioN_iot]
/-- The first one of all indices. -/
theorem first_io {bs : List ArV} {l : Int} {t : List Int} (h : bya bs = ioL (l :: t)) : ∃ sb scb db dcb, arz bs 0 = (false, (((sb, scb), [l]), ((db, dcb), ioN l))) := by
  match bs, h with
  | (cb, (((sb, scb), szb), ((db, dcb), dzb))) :: r, h =>
    have h1 : ArV.ar (cb, (((sb, scb), szb), ((db, dcb), dzb))) = (false, ([l], ioN l)) := (List.cons.inj h).1
    simp only [ArV.ar, Prod.mk.injEq] at h1
    obtain ⟨rfl, rfl, rfl⟩ := h1
    exact ⟨sb, scb, db, dcb, rfl⟩
theorem bya_set {bs : List ArV} {l : Int} {t : List Int} (h : bya bs = ioL (l :: t)) (b : ArV) : bya (bs.set 0 b) = b.ar :: ioL t := by
  match bs, h with
  | x :: r, h =>
    have h2 : bya r = ioL t := (List.cons.inj h).2
    show b.ar :: bya r = _
    rw [h2]
end Go.Proofs.Ytlflacoiidhgoaa
