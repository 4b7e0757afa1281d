/-
  What the turns tell, where nothing is wrong and where something is; the statements' own helpers.
-/
import Derived.Test.YtgaelbgeoobgiaaCutn
import Derived.Test.YtgaelbgeoobgiaaSarr
namespace Go.Proofs.Ytgaelbgeoobgiaa
open Go.RowKit
set_option linter.unusedVariables false

def rvG (x : Int) (sz dz : List Int) : List Int := GA sz dz sz (revT sz x.toNat)
def rtG (n x : Int) (sz dz : List Int) : List Int := GA sz dz sz (rotT sz n x.toNat)
def flG (p sz dz : List Int) : List Int := GA sz dz (axVal sz p) (flpT p)
section
variable {x y n m : Int} {c : Bool} {sz dz : List Int}
theorem axE_err (h : axE x c sz dz = 0) : errOf sz = 0 ∧ (dz.length : Int) = prod sz ∧ x.toNat < sz.length := ⟨(flawE_zero (axE_zero.1 h).1).1, (flawE_zero (axE_zero.1 h).1).2.1, (axE_zero.1 h).2.2⟩
theorem rv_flaw (h : axE x c sz dz = 0) : flawE c sz (rvG x sz dz) = 0 := GA_flaw (axE_zero.1 h).1 (axE_err h).1 fun t ht => revT_in ht (axE_err h).2.2
theorem rt_flaw (h : axE x c sz dz = 0) : flawE c sz (rtG n x sz dz) = 0 := GA_flaw (axE_zero.1 h).1 (axE_err h).1 fun t ht => rotT_in ht (axE_err h).2.2
theorem axE_of (h : axE y c sz dz = 0) {xs : List Int} (hf : flawE c sz xs = 0) : axE y c sz xs = 0 := axE_zero.2 ⟨hf, (axE_zero.1 h).2⟩
theorem rv_rv (h : axE x c sz dz = 0) : rvG x sz (rvG x sz dz) = dz := by
  obtain ⟨h1, h2, h3⟩ := axE_err h
  unfold rvG
  rw [GA_comp h1 h1 fun t ht => revT_in ht h3]
  exact GA_id h1 h2 fun t ht => revT_twice ht h3
theorem rv_swap (h : axE x c sz dz = 0) (h' : axE y c sz dz = 0) : rvG y sz (rvG x sz dz) = rvG x sz (rvG y sz dz) := by
  obtain ⟨h1, h2, h3⟩ := axE_err h
  have h4 := (axE_err h').2.2
  unfold rvG
  rw [GA_comp h1 h1 fun t ht => revT_in ht h4, GA_comp h1 h1 fun t ht => revT_in ht h3]
  exact GA_congr h1 fun t ht => revT_swap ht h3 h4
theorem rt_rt (h : axE x c sz dz = 0) : rtG n x sz (rtG m x sz dz) = rtG (m + n) x sz dz := by
  obtain ⟨h1, h2, h3⟩ := axE_err h
  unfold rtG
  rw [GA_comp h1 h1 fun t ht => rotT_in ht h3]
  exact GA_congr h1 fun t ht => rotT_add ht h3
theorem rt_len (h : axE x c sz dz = 0) : rtG (nth sz x.toNat) x sz dz = dz := by
  obtain ⟨h1, h2, h3⟩ := axE_err h
  exact GA_id h1 h2 fun t ht => rotT_len ht h3
theorem rt_mirror (h : axE x c sz dz = 0) : rvG x sz (rtG n x sz (rvG x sz dz)) = rtG (-n) x sz dz := by
  obtain ⟨h1, h2, h3⟩ := axE_err h
  unfold rvG rtG
  rw [GA_comp h1 h1 fun t ht => rotT_in ht h3, GA_comp h1 h1 fun t ht => revT_in ht h3]
  exact GA_congr h1 fun t ht => rotT_mirror ht h3
theorem tu_len (h : flawE c sz dz = 0) : sz.length ≤ 9223372036854775807 ∧ dz.length ≤ 9223372036854775807 := by have := flawE_short h; omega
end
/-- An array, where nothing is wrong. -/
def OkA (c : Bool) (S D : List Int) (w : World) (r : Ending) (w' : World) : Prop :=
  ∃ xa xc ya yc, r = .returned (.tuple #[.agg #[.bool c, .slice xa S.length xc, .slice ya D.length yc], .nilIface]) ∧ NewC w.heap.size w' xa S xc ∧ NewInts w.heap.size w' ya D ∧ Below w.heap.size w w'
/-- An error, and an array of which all is empty. -/
def NoA (e : Int) (w : World) (r : Ending) (w' : World) : Prop :=
  ∃ xa xc ya yc, r = .returned (.tuple #[.agg #[.bool false, .slice xa 0 xc, .slice ya 0 yc], .iface 76 (.int .i64 e)]) ∧ Below w.heap.size w w'
theorem UA.ok {e : Int} {c : Bool} {S D : List Int} {w w' : World} {r : Ending} (h0 : e = 0) (h : UA e (onc e c) (onl e S) (onl e D) w r w') : OkA c S D w r w' := by
  subst h0
  exact h
theorem UA.no {e : Int} {c : Bool} {S D : List Int} {w w' : World} {r : Ending} (h0 : e ≠ 0) (h : UA e (onc e c) (onl e S) (onl e D) w r w') : NoA e w r w' := by
  obtain ⟨xa, xc, ya, yc, hr, hX, hY, hB⟩ := h
  rw [onl_no h0, onl_no h0, onc_no h0, errV_pos h0] at hr
  exact ⟨xa, xc, ya, yc, hr, hB⟩
theorem fl_ok (c : Bool) (sa : Option Addr) (sc : Nat) (sz : List Int) (da : Option Addr) (dc : Nat) (dz : List Int) (w : World) (h1 : sz.length ≤ 9223372036854775807) (h2 : dz.length ≤ 9223372036854775807) (hs : IsC w.heap.size w sa sz sc) (hd : IsInts w.heap.size w da dz) (T : ∀ j, In64 (nth dz j)) (H : CFl) (pa : Option Addr) (pc : Nat) (p : List Int) (hl : p.length ≤ 9223372036854775807) (hp : IsInts w.heap.size w pa p) (h : flE p c sz dz = 0) : Calls Try.prog 12 #[.slice pa p.length pc, .agg #[.bool c, .slice sa sz.length sc, .slice da dz.length dc]] w (OkA c (axVal sz p) (flG p sz dz) w) :=
  (H pa pc p c sa sc sz da dc dz w hl h1 h2 hp hs hd T).mono fun r w' h' => UA.ok h h'
theorem fl_no (c : Bool) (sa : Option Addr) (sc : Nat) (sz : List Int) (da : Option Addr) (dc : Nat) (dz : List Int) (w : World) (h1 : sz.length ≤ 9223372036854775807) (h2 : dz.length ≤ 9223372036854775807) (hs : IsC w.heap.size w sa sz sc) (hd : IsInts w.heap.size w da dz) (T : ∀ j, In64 (nth dz j)) (H : CFl) (pa : Option Addr) (pc : Nat) (p : List Int) (hl : p.length ≤ 9223372036854775807) (hp : IsInts w.heap.size w pa p) (h : flE p c sz dz ≠ 0) : Calls Try.prog 12 #[.slice pa p.length pc, .agg #[.bool c, .slice sa sz.length sc, .slice da dz.length dc]] w (NoA (flE p c sz dz) w) :=
  (H pa pc p c sa sc sz da dc dz w hl h1 h2 hp hs hd T).mono fun r w' h' => UA.no h h'
set_option maxRecDepth 100000 in
set_option maxHeartbeats 2000000 in
theorem alike_eq (c : Bool) (sa : Option Addr) (sc : Nat) (sz : List Int) (da : Option Addr) (dc : Nat) (dz : List Int) (sa' : Option Addr) (sc' : Nat) (sz' : List Int) (da' : Option Addr) (dc' : Nat) (dz' : List Int) (es : sz' = sz) (ed : dz' = dz)
    (h1 : sz.length ≤ 9223372036854775807) (h2 : dz.length ≤ 9223372036854775807) (w : World) (hs : IsC w.heap.size w sa sz sc) (hd : IsInts w.heap.size w da dz) (hs' : IsC w.heap.size w sa' sz' sc') (hd' : IsInts w.heap.size w da' dz') :
    Calls Try.prog 8 #[.agg #[.bool c, .slice sa sz.length sc, .slice da dz.length dc], .nilIface, .agg #[.bool c, .slice sa' sz'.length sc', .slice da' dz'.length dc'], .nilIface] w fun r w' => r = .returned (.bool true) ∧ Below w.heap.size w w' := by
  subst es ed
  have HI : Hid ((IsInts w.heap.size w sa sz' ∧ IsInts w.heap.size w da dz') ∧ (IsInts w.heap.size w sa' sz' ∧ IsInts w.heap.size w da' dz')) := ⟨⟨hs.1, hd⟩, hs'.1, hd'⟩
  clear hs hd hs' hd'
  have hb : Hid (Below w.heap.size w ((w.alloc (.cells #[.bool c, .slice sa sz'.length sc, .slice da dz'.length dc] 24)).alloc (.cells #[.bool c, .slice sa' sz'.length sc', .slice da' dz'.length dc'] 24))) := ((Below.refl _ w).alloc (Nat.le_refl _) _).alloc (by simp) _
  go_enter Try.func8, Try.ntmps8
  go_wp2_with fail
  refine (sarr_any c c sa sc sz' da dc dz' sa' sc' sz' da' dc' dz' h1 h2 _ ((HI.out.1.1.below hb.out).mono hb.out.size) ((HI.out.1.2.below hb.out).mono hb.out.size) ((HI.out.2.1.below hb.out).mono hb.out.size) ((HI.out.2.2.below hb.out).mono hb.out.size)).mono ?_
  rintro r v1 ⟨rfl, hB⟩
  rw [arrB_self]
  have hb1 : Hid (Below w.heap.size w v1) := hb.out.trans (hB.mono hb.out.size)
  clear hB
  go_wp2_with fail
  go_ret
  exact ⟨rfl, hb1.out⟩
end Go.Proofs.Ytgaelbgeoobgiaa
