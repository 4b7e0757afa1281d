/-
  A line in two parts: what Join, Reduce and Two of both tell.
-/
import Derived.Test.YtmbgomljofngnacDoorFldo
import Derived.Test.YtmbgomljofngnacDoorFldl
import Derived.Test.YtmbgomljofngnacDoorEachc
namespace Go.Proofs.YtmbgomljofngnacDoor
open Go.RowKit
set_option linter.unusedVariables false

theorem c2d_ok12 (H : C2d) (f : Int) (c : Bool) (sa : Option Addr) (sc : Nat) (sz : List Int) (l : Nat) (hl : sz.length = l) (da : Option Addr) (dc : Nat) (dz : List Int) (m : Nat) (hm : dz.length = m) (c' : Bool) (sa' : Option Addr) (sc' : Nat) (sz' : List Int) (da' : Option Addr) (dc' : Nat) (dz' : List Int) (w : World) (hf : In64 f) (h1 : l ≤ 9223372036854775807) (h2 : m ≤ 9223372036854775807) (h1' : sz'.length ≤ 9223372036854775807) (h2' : dz'.length ≤ 9223372036854775807)
    (hs : IsInts w.heap.size w sa sz) (hd : IsInts w.heap.size w da dz) (hs' : IsInts w.heap.size w sa' sz') (hd' : IsInts w.heap.size w da' dz') (T : ∀ j, In64 (nth dz j)) (T' : ∀ j, In64 (nth dz' j)) (S D : List Int) (h : e2E f c sz dz c' sz' dz' = 0 ∧ shp sz sz' = S ∧ e2V f c sz dz c' sz' dz' = D) :
    Calls Tryd.prog 11 #[.int .i64 f, .agg #[.bool c, .slice sa l sc, .slice da m dc], .agg #[.bool c', .slice sa' sz'.length sc', .slice da' dz'.length dc']] w (OkB false S D w) := by
  obtain ⟨h0, hS, hD⟩ := h
  subst hl hm hS hD
  exact (H f c sa sc sz da dc dz c' sa' sc' sz' da' dc' dz' w hf h1 h2 h1' h2' hs hd hs' hd' T T').mono fun e w' h' => h'.elim (fun h1 => absurd h0 h1.1) (fun h1 => h1.2)
section
variable {f x : Int} {sz1 dz1 sz2 dz2 : List Int} {c2 : Bool}
theorem jn_full (h : jnE x false sz1 dz1 c2 sz2 dz2 = 0) (hm : Mon f) (T1 : ∀ j, In64 (nth dz1 j)) (T2 : ∀ j, In64 (nth dz2 j)) (g : errOf (xout x.toNat sz1) ≠ 0) : rdE f x false (jnS x.toNat sz1 sz2) (jnD x.toNat sz1 dz1 sz2 dz2) = 7 := by
  obtain ⟨a1, a2, a3, a4, a5, a6, a7, a8⟩ := jnE_zero.1 h
  have hl : lnE f x false (jnS x.toNat sz1 sz2) (jnD x.toNat sz1 dz1 sz2 dz2) = 0 := lnE_zero.2 ⟨hm.fn, jn_flaw h, ⟨a4, by unfold jnS; rw [List.length_set]; exact a5⟩, rfl⟩
  rw [mon_rdE hm (jn_64 h T1 T2), if_neg (not_not_intro hl)]
  unfold jnS
  rw [xout_set]
  exact (err_xout7 a5 (flawE_zero a1).1).resolve_left g
theorem jn_parts (h : jnE x false sz1 dz1 c2 sz2 dz2 = 0) (hm : Mon f) (T1 : ∀ j, In64 (nth dz1 j)) (T2 : ∀ j, In64 (nth dz2 j)) (g : errOf (xout x.toNat sz1) = 0) :
    rdE f x false (jnS x.toNat sz1 sz2) (jnD x.toNat sz1 dz1 sz2 dz2) = 0 ∧ rdE f x false sz1 dz1 = 0 ∧ rdE f x false sz2 dz2 = 0 ∧
    e2E f false (xout x.toNat sz1) (rdD f sz1 dz1 x.toNat) false (xout x.toNat sz1) (rdD f sz2 dz2 x.toNat) = 0 ∧ shp (xout x.toNat sz1) (xout x.toNat sz1) = xout x.toNat sz1 ∧
    rdD f (jnS x.toNat sz1 sz2) (jnD x.toNat sz1 dz1 sz2 dz2) x.toNat = e2V f false (xout x.toNat sz1) (rdD f sz1 dz1 x.toNat) false (xout x.toNat sz1) (rdD f sz2 dz2 x.toNat) ∧
    xout x.toNat (jnS x.toNat sz1 sz2) = xout x.toNat sz1 ∧ xout x.toNat sz2 = xout x.toNat sz1 := by
  obtain ⟨a1, a2, a3, a4, a5, a6, a7, a8⟩ := jnE_zero.1 h
  subst a7
  obtain ⟨xn, rfl⟩ : ∃ xn : Nat, x = (xn : Int) := ⟨x.toNat, by omega⟩
  rw [Int.toNat_natCast] at *
  obtain ⟨r1, r2, r3⟩ := rd_join h hm g T1 T2
  have l1 : lnE f (xn : Int) false (jnS xn sz1 sz2) (jnD xn sz1 dz1 sz2 dz2) = 0 := lnE_zero.2 ⟨hm.fn, by have := jn_flaw h; rwa [Int.toNat_natCast] at this, ⟨by omega, by unfold jnS; rw [List.length_set, Int.toNat_natCast]; exact a5⟩, rfl⟩
  have l2 : lnE f (xn : Int) false sz1 dz1 = 0 := lnE_zero.2 ⟨hm.fn, a1, ⟨by omega, by rw [Int.toNat_natCast]; exact a5⟩, rfl⟩
  have l3 : lnE f (xn : Int) false sz2 dz2 = 0 := lnE_zero.2 ⟨hm.fn, a2, ⟨by omega, by rw [Int.toNat_natCast, ← a3]; exact a5⟩, rfl⟩
  have T3 : ∀ j, In64 (nth (jnD xn sz1 dz1 sz2 dz2) j) := by have := jn_64 h T1 T2; rwa [Int.toNat_natCast] at this
  have hB : rdD f sz2 dz2 xn = TA (xout xn sz1) fun t => fdV f (rdL sz2 dz2 xn t) := by unfold rdD; rw [r2]
  obtain ⟨m1, m2, m3⟩ := e2_mon (u := fun t => fdV f (rdL sz1 dz1 xn t)) (v := fun t => fdV f (rdL sz2 dz2 xn t)) hm g
  refine ⟨by rw [mon_rdE hm T3, if_neg (not_not_intro l1), Int.toNat_natCast, r1]; exact g, by rw [mon_rdE hm T1, if_neg (not_not_intro l2), Int.toNat_natCast]; exact g, by rw [mon_rdE hm T2, if_neg (not_not_intro l3), Int.toNat_natCast, r2]; exact g, ?_, m2, ?_, r1, r2⟩
  · rw [hB]; exact m1
  · rw [r3, hB]; exact m3.symm
end
end Go.Proofs.YtmbgomljofngnacDoor
