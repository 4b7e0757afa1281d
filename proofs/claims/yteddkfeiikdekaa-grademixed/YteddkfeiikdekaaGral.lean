/-
  What the walk of GradeMixed takes besides.
-/
import Derived.Test.YteddkfeiikdekaaPatw
import Derived.Test.YteddkfeiikdekaaPika
import Derived.Test.YteddkfeiikdekaaIotc
import Derived.Test.YteddkfeiikdekaaPown
import Derived.Test.YteddkfeiikdekaaGrdp
import Derived.Test.YteddkfeiikdekaaGrdw
import Derived.Test.YteddkfeiikdekaaPerm
namespace Go.Proofs.Yteddkfeiikdekaa
open Go.RowKit
set_option linter.unusedVariables false

theorem iot_n10 (n : Nat) : ioN (n : Int) = iot n := by unfold ioN iot; rw [Int.toNat_natCast]; rfl
theorem one64_10 {n : Nat} (h : n ≤ 4096) : ∀ j, In64 (nth [(n : Int)] j) := fun j => by
  cases j with
  | zero => show In64 (n : Int); unfold In64; omega
  | succ j => show In64 0; unfold In64; decide
theorem iot64_10 (n : Nat) (h : n ≤ 4096) : ∀ j, In64 (nth (iot n) j) := fun j => by
  by_cases hj : j < n
  · rw [nth_get _ _ (by rw [iot_length]; exact hj)]
    simp [iot]; unfold In64; omega
  · have : nth (iot n) j = 0 := by simp [nth, iot, hj]
    rw [this]; unfold In64; decide
theorem bya_next10 {bs : List ArV} {sz : List Int} {k n : Nat} (h : bya bs = ioL (sz.take k)) (hk : k < sz.length) (hn : nth sz k = (n : Int)) (xa : Option Addr) (xc : Nat) (ya : Option Addr) (yc : Nat) : bya (bs ++ [(false, (((xa, xc), [(n : Int)]), ((ya, yc), iot n)))]) = ioL (sz.take (k + 1)) := by
  have e : sz.take (k + 1) = sz.take k ++ [(n : Int)] := by rw [List.take_succ_eq_append_getElem hk, ← nth_get sz k hk, hn]
  have e1 : bya (bs ++ [(false, (((xa, xc), [(n : Int)]), ((ya, yc), iot n)))]) = bya bs ++ [(false, ([(n : Int)], iot n))] := by simp [bya, ArV.ar]
  have e2 : ioL (sz.take k ++ [(n : Int)]) = ioL (sz.take k) ++ [(false, ([(n : Int)], ioN (n : Int)))] := by simp [ioL]
  rw [e, e1, e2, h, iot_n10]
theorem bya_set10 {bs : List ArV} {l : Int} {t : List Int} (h : bya bs = ioL (l :: t)) (b : ArV) : bya (bs.set 0 b) = b.ar :: ioL t := by
  match bs, h with
  | x :: r, h =>
    have h2 : bya r = ioL t := (List.cons.inj h).2
    show b.ar :: bya r = _
    rw [h2]
theorem OWA.again {g lo : Nat} {W : World} {bs : List ArV} {b : ArV} (h : OWA g lo W bs) (h0 : 0 < bs.length) (hb : AvO (some g) lo W b) (x y z : Value) (hx : x = .bool b.1) (hy : y = b.s) (hz : z = b.d) :
    OWA g lo (((W.setCell ⟨g, 0, none⟩ x).setCell ⟨g, 1, none⟩ y).setCell ⟨g, 2, none⟩ z) (bs.set 0 b) := by
  have hs := h.store7 h0 hb x y z hx hy hz
  refine ⟨by simpa [World.setCell] using h.1, ?_, fun i => by rw [World.frozen?_setCell, World.frozen?_setCell, World.frozen?_setCell]; exact h.2.2.1 i, fun j hj => ?_⟩
  · rcases hs.1 with e | ⟨b', off, e, _, hc⟩
    · intro j hj; rw [e] at hj; cases hj
    · cases e; exact hc
  · rw [arz_set bs b h0]
    rw [List.length_set] at hj
    by_cases e : j = 0
    · rw [if_pos e]; exact ((hb.set (i := 0) x).set (i := 1) y).set (i := 2) z
    · rw [if_neg e]; exact (((h.2.2.2 j hj).set (i := 0) x).set (i := 1) y).set (i := 2) z
/-! ### Rows in an order are an array of the same lengths -/
theorem srD_mem {dz : List Int} {long : Nat} {p : List Int} {x : Int} (h : x ∈ srD dz long p) : x ∈ dz := by
  unfold srD at h
  obtain ⟨r, hr, hx⟩ := List.mem_flatten.1 h
  obtain ⟨y, _, rfl⟩ := List.mem_map.1 hr
  exact List.mem_of_mem_drop (List.mem_of_mem_take hx)
theorem srD_flaw {c : Bool} {sz dz p : List Int} (h : gdE c sz dz = 0) (hp : IsOrd p) (hl : p.length = nR sz) : flawE c sz (srD dz (lR sz dz) p) = 0 ∧ (srD dz (lR sz dz) p).length = dz.length := by
  have h1 := gdE_zero.1 h
  have h2 := flawE_zero h1.1
  have hlen : (srD dz (lR sz dz) p).length = dz.length := by
    rw [srD_length (lR_le sz dz) hp hl]
    match sz, h1 with
    | x :: s, h1 => exact (lR_whole h1.1).symm
    | [], h1 => exact absurd h1.2 (by simp)
  refine ⟨?_, hlen⟩
  unfold flawE
  rw [if_neg (by simpa using h2.1), if_neg (by rw [hlen]; simpa using h2.2.1), if_neg]
  rintro ⟨hc, ha⟩
  have h3 := h2.2.2 hc
  rw [chAll, List.all_eq_true] at h3
  have h4 : chAll (srD dz (lR sz dz) p) = true := by rw [chAll, List.all_eq_true]; exact fun x hx => h3 x (srD_mem hx)
  rw [h4] at ha; cases ha
theorem srD_gd {c : Bool} {sz dz p : List Int} (h : gdE c sz dz = 0) (hp : IsOrd p) (hl : p.length = nR sz) : gdE c sz (srD dz (lR sz dz) p) = 0 ∧ gdD sz (srD dz (lR sz dz) p) = gdD sz dz := by
  obtain ⟨h1, h2⟩ := srD_flaw h hp hl
  have h3 := gdE_zero.1 h
  refine ⟨gdE_zero.2 ⟨h1, h3.2⟩, ?_⟩
  have e : lR sz (srD dz (lR sz dz) p) = lR sz dz := by rw [lR_is sz (srD dz (lR sz dz) p), h2, ← lR_is]
  have hw : dz.length = nR sz * lR sz dz := by
    match sz, h3 with
    | x :: s, h3 => exact lR_whole h3.1
    | [], h3 => exact absurd h3.2 (by simp)
  unfold gdD gdO
  rw [e]
  exact mixed hw hp hl
theorem srD_64 {dz : List Int} {long : Nat} {p : List Int} (T : ∀ j, In64 (nth dz j)) : ∀ j, In64 (nth (srD dz long p) j) := fun j => by
  by_cases hj : j < (srD dz long p).length
  · have hm := srD_mem (nth_mem _ _ hj)
    obtain ⟨i, hi, e⟩ := List.mem_iff_getElem.1 hm
    rw [← e, ← nth_get dz i hi]; exact T i
  · have : nth (srD dz long p) j = 0 := by simp [nth, List.getElem?_eq_none (Nat.le_of_not_lt hj)]
    rw [this]; unfold In64; decide
/-- Picked by an order of the first axis. -/
theorem pick_ord {c : Bool} {l0 : Int} {t0 dz p : List Int} (h : gdE c (l0 :: t0) dz = 0) (hp : IsOrd p) (hl : p.length = nR (l0 :: t0)) :
    pkE c (l0 :: t0) dz ((false, ([(p.length : Int)], p)) :: ioL t0) = 0 ∧ pkS ((false, ([(p.length : Int)], p)) :: ioL t0) = l0 :: t0 ∧ pkD (l0 :: t0) dz ((false, ([(p.length : Int)], p)) :: ioL t0) = srD dz (lR (l0 :: t0) dz) p := by
  have e : (p.length : Int) = l0 := by
    have := (nR_is h).1
    rw [nth_zero] at this
    rw [hl]; exact this.symm
  rw [e]
  exact all_ord (gdE_zero.1 h).1 hp e
theorem perm_b10 (a : Option Addr) (cap : Nat) (ps : List Int) (h : ps.length ≤ 9223372036854775807) (w : World) (hI : IsInts w.heap.size w a ps) (b : Bool) (hb : ordB ps = b) :
    Calls Try.prog 10 #[.slice a ps.length cap] w fun e w' => e = .returned (.bool b) ∧ Below w.heap.size w w' := by
  subst hb
  exact perm_any a cap ps h _ w hI
end Go.Proofs.Yteddkfeiikdekaa
