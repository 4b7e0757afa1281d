/-
  What At and Put tell, where nothing is wrong and where something is; a slice of one array.
-/
import Derived.Test.YteddkfeiikdekaaCutw
import Derived.Test.YteddkfeiikdekaaPikq
import Derived.Test.YteddkfeiikdekaaMidc
namespace Go.Proofs.Yteddkfeiikdekaa
open Go.RowKit
set_option linter.unusedVariables false

theorem lit_all {xs : List Int} (h : xs.all (fun x => decide (-9223372036854775808 ≤ x ∧ x ≤ 9223372036854775807)) = true) : ∀ j, In64 (nth xs j) := fun j => by
  by_cases hj : j < xs.length
  · have : nth xs j ∈ xs := by simp [nth, hj]
    exact of_decide_eq_true (p := -9223372036854775808 ≤ nth xs j ∧ nth xs j ≤ 9223372036854775807) (List.all_eq_true.1 h _ this)
  · have : nth xs j = 0 := by simp [nth, List.getElem?_eq_none (Nat.le_of_not_lt hj)]
    rw [this]; unfold In64; decide
/-- A block that holds an array is a slice of one array. -/
theorem as_one {W : World} {B : Nat} {c : Bool} {sa : Option Addr} {sc : Nat} {sz : List Int} {da : Option Addr} {dc : Nat} {dz : List Int} (h : Abx W B (.bool c) (.slice sa sz.length sc) (.slice da dz.length dc)) (h1 : sz.length ≤ 9223372036854775807) (h2 : dz.length ≤ 9223372036854775807) (hs : IsC W.heap.size W sa sz sc) (hd : IsC W.heap.size W da dz dc) (T1 : ∀ j, In64 (nth sz j)) (T2 : ∀ j, In64 (nth dz j)) : IsAs W.heap.size W (some ⟨B, 0, none⟩) [(c, (((sa, sc), sz), ((da, dc), dz)))] := by
  refine ⟨.inr ⟨B, 0, rfl, h.lt, fun j hj => ?_⟩, fun j hj => ?_⟩
  · obtain rfl : j = 0 := by simpa using hj
    exact ⟨h.c0, h.c1, h.c2⟩
  · obtain rfl : j = 0 := by simpa using hj
    exact ⟨h1, h2, hs, hd, T1, T2⟩
theorem in64_err {s : List Int} (h : errOf s = 0) : ∀ j, In64 (nth s j) := fun j => by
  have := (errOf_zero.1 h).2.1.nth j
  unfold In64
  omega
theorem at_ok (c : Bool) (sa : Option Addr) (sc : Nat) (sz : List Int) (da : Option Addr) (dc : Nat) (dz : List Int) (ba : Option Addr) (bc : Nat) (bs : List ArV) (l : Nat) (hl : bs.length = l) (w : World) (h1 : sz.length ≤ 9223372036854775807) (h2 : dz.length ≤ 9223372036854775807) (h3 : l ≤ 9223372036854775807) (hs : IsInts w.heap.size w sa sz) (hd : IsInts w.heap.size w da dz) (hb : IsAs w.heap.size w ba bs) (S D : List Int) (H : CAt) (h : pkE c sz dz (bya bs) = 0 ∧ pkS (bya bs) = S ∧ pkD sz dz (bya bs) = D) :
    Calls Try.prog 21 #[.agg #[.bool c, .slice sa sz.length sc, .slice da dz.length dc], .slice ba l bc] w (OkB c S D w) := by
  subst hl
  exact (H c sa sc sz da dc dz ba bc bs w h1 h2 h3 hs hd hb).mono fun r w' h' => UB.ok h h'
theorem at_no (c : Bool) (sa : Option Addr) (sc : Nat) (sz : List Int) (da : Option Addr) (dc : Nat) (dz : List Int) (ba : Option Addr) (bc : Nat) (bs : List ArV) (l : Nat) (hl : bs.length = l) (w : World) (h1 : sz.length ≤ 9223372036854775807) (h2 : dz.length ≤ 9223372036854775807) (h3 : l ≤ 9223372036854775807) (hs : IsInts w.heap.size w sa sz) (hd : IsInts w.heap.size w da dz) (hb : IsAs w.heap.size w ba bs) (H : CAt) (h : pkE c sz dz (bya bs) ≠ 0) :
    Calls Try.prog 21 #[.agg #[.bool c, .slice sa sz.length sc, .slice da dz.length dc], .slice ba l bc] w (NoA (pkE c sz dz (bya bs)) w) := by
  subst hl
  exact (H c sa sc sz da dc dz ba bc bs w h1 h2 h3 hs hd hb).mono fun r w' h' => UB.no h h'
end Go.Proofs.Yteddkfeiikdekaa
