/-
  Plain mathematics of cells one by one: arrays of other shapes with the same cells tell the same.
-/
import Derived.Test.YtmbgomljofngnaaEachq
import Derived.Test.YtmbgomljofngnaaRavel
namespace Go.Proofs.Ytmbgomljofngnaa
open Go.RowKit
set_option linter.unusedVariables false

theorem cyA_one (x d : Int) (i : Nat) : cyA [x] d i = x := by
  unfold cyA; rw [if_neg (by simp)]; show nth [x] (i % 1) = x; rw [Nat.mod_one]; rfl
theorem flaw_one {c : Bool} {dz : List Int} (h : flawE c [] dz = 0) : ∃ x, dz = [x] :=
  List.length_eq_one_iff.1 (by have h1 := (flawE_zero h).2.1; have h2 : prod [] = 1 := rfl; omega)
theorem flaw_spread {c : Bool} {x : Int} {sz : List Int} {n : Nat} {d : Int} (h : flawE c [] [x] = 0) (he : errOf sz = 0) (hn : (n : Int) = prod sz) : flawE c sz (cyc [x] n d) = 0 := by
  have hl : ((cyc [x] n d).length : Int) = prod sz := by rw [cyc_length]; exact hn
  cases c with
  | false => exact flawE_okn he hl
  | true =>
    refine flawE_okc he hl ?_
    have h1 := (flawE_zero h).2.2 rfl
    unfold chAll cyc
    rw [List.all_map, List.all_eq_true]
    intro i _
    show chOk (cyA [x] d i) = true
    rw [cyA_one]
    simpa [chAll] using h1
theorem shp_nil (sz : List Int) : shp [] sz = sz := by simp [shp]
theorem shp_self (sz : List Int) : shp sz sz = sz := by unfold shp; split <;> rfl
theorem shp_nil' (sz : List Int) : shp sz [] = sz := by
  unfold shp
  split
  · rename_i h; exact (List.eq_nil_of_length_eq_zero h).symm
  · rfl
section
variable {f : Int} {c : Bool} {sz dz : List Int} {c' : Bool} {sz' dz' su du su' du' : List Int}
theorem e2_congr (hF : e2F f c sz dz c' sz' dz' = 0 ↔ e2F f c su du c' su' du' = 0) (hn : e2N su su' = e2N sz sz') (hC : ∀ i, i < e2N sz sz' → e2C du i = e2C dz i ∧ e2C du' i = e2C dz' i) :
    (e2E f c sz dz c' sz' dz' = 0 ↔ e2E f c su du c' su' du' = 0) ∧ e2V f c su du c' su' du' = e2V f c sz dz c' sz' dz' := by
  refine ⟨⟨fun h => ?_, fun h => ?_⟩, ?_⟩
  · obtain ⟨h1, h2⟩ := e2E_sub h
    exact e2E_mk (hF.1 h1) fun i hi => by rw [hn] at hi; rw [(hC i hi).1, (hC i hi).2]; exact h2 i hi
  · obtain ⟨h1, h2⟩ := e2E_sub h
    exact e2E_mk (hF.2 h1) fun i hi => by rw [← (hC i hi).1, ← (hC i hi).2]; exact h2 i (by rw [hn]; exact hi)
  · unfold e2V
    rw [hn]
    exact List.map_congr_left fun i hi => by rw [(hC i (List.mem_range.1 hi)).1, (hC i (List.mem_range.1 hi)).2]
theorem e2_alike (hE : e2E f c sz dz c' sz' dz' = 0 ↔ e2E f c su du c' su' du' = 0) (hV : e2V f c su du c' su' du' = e2V f c sz dz c' sz' dz') (hs : shp su su' = shp sz sz') :
    alB false (e2S f c sz dz c' sz' dz') (e2D f c sz dz c' sz' dz') (e2E f c sz dz c' sz' dz') false (e2S f c su du c' su' du') (e2D f c su du c' su' du') (e2E f c su du c' su' du') = true := by
  by_cases h : e2E f c sz dz c' sz' dz' = 0
  · have h' := hE.1 h
    unfold e2S e2D
    rw [if_pos h, if_pos h, if_pos h', if_pos h', hs, hV]
    exact al_ok hE (fun _ => e2_flaw h)
  · have h' : ¬ e2E f c su du c' su' du' = 0 := fun q => h (hE.2 q)
    unfold alB
    rw [if_neg (fun q => h q.1), decide_eq_true ⟨h, h'⟩]
end
section
variable {f : Int} {c : Bool} {x d : Int} {c' : Bool} {sz dz : List Int}
theorem e2C_spread {n i : Nat} (hi : i < n) : e2C (cyc [x] n d) i = e2C [x] i := by
  unfold e2C
  rw [cyA_one]
  unfold cyA
  rw [cyc_length, if_neg (by omega), Nat.mod_eq_of_lt hi, cyc_nth _ _ _ hi, cyA_one]
theorem e2N_len (h : flawE c sz dz = 0) : (prod sz).toNat = dz.length := by have := (flawE_zero h).2.1; omega
theorem spread_l (h0 : flawE c [] [x] = 0) (h1 : flawE c' sz dz = 0) :
    alB false (e2S f c [] [x] c' sz dz) (e2D f c [] [x] c' sz dz) (e2E f c [] [x] c' sz dz) false (e2S f c sz (cyc [x] dz.length d) c' sz dz) (e2D f c sz (cyc [x] dz.length d) c' sz dz) (e2E f c sz (cyc [x] dz.length d) c' sz dz) = true := by
  have hf := flaw_spread (d := d) h0 (flawE_zero h1).1 (flawE_zero h1).2.1
  have hs : shp sz sz = shp [] sz := by rw [shp_self, shp_nil]
  have hc := e2_congr (f := f) (c := c) (sz := []) (dz := [x]) (c' := c') (sz' := sz) (dz' := dz) (su := sz) (du := cyc [x] dz.length d) (su' := sz) (du' := dz) (by
    rw [e2F_zero, e2F_zero]
    constructor
    · rintro ⟨a, _, _, _, b⟩; exact ⟨a, hf, h1, .inr (.inr rfl), b⟩
    · rintro ⟨a, _, _, _, b⟩; exact ⟨a, h0, h1, .inl rfl, b⟩) (by unfold e2N; rw [hs]) (fun i hi => by
    unfold e2N at hi; rw [shp_nil, e2N_len h1] at hi; exact ⟨e2C_spread hi, rfl⟩)
  exact e2_alike hc.1 hc.2 hs
theorem spread_r (h0 : flawE c [] [x] = 0) (h1 : flawE c' sz dz = 0) :
    alB false (e2S f c' sz dz c [] [x]) (e2D f c' sz dz c [] [x]) (e2E f c' sz dz c [] [x]) false (e2S f c' sz dz c sz (cyc [x] dz.length d)) (e2D f c' sz dz c sz (cyc [x] dz.length d)) (e2E f c' sz dz c sz (cyc [x] dz.length d)) = true := by
  have hf := flaw_spread (d := d) h0 (flawE_zero h1).1 (flawE_zero h1).2.1
  have hs : shp sz sz = shp sz [] := by rw [shp_self, shp_nil']
  have hc := e2_congr (f := f) (c := c') (sz := sz) (dz := dz) (c' := c) (sz' := []) (dz' := [x]) (su := sz) (du := dz) (su' := sz) (du' := cyc [x] dz.length d) (by
    rw [e2F_zero, e2F_zero]
    constructor
    · rintro ⟨a, _, _, _, b⟩; exact ⟨a, h1, hf, .inr (.inr rfl), b⟩
    · rintro ⟨a, _, _, _, b⟩; exact ⟨a, h1, h0, .inr (.inl rfl), b⟩) (by unfold e2N; rw [hs]) (fun i hi => by
    unfold e2N at hi; rw [shp_nil', e2N_len h1] at hi; exact ⟨rfl, e2C_spread hi⟩)
  exact e2_alike hc.1 hc.2 hs
theorem In64.cyc {zs : List Int} {n : Nat} (h : ∀ j, In64 (nth zs j)) (hl : zs.length ≠ 0) (j : Nat) : In64 (nth (cyc zs n d) j) := by
  by_cases hj : j < n
  · rw [cyc_nth _ _ _ hj]; exact In64.cyA h hl _ _
  · have : nth (Go.Proofs.Ytmbgomljofngnaa.cyc zs n d) j = 0 := by simp [nth, List.getElem?_eq_none (show (Go.Proofs.Ytmbgomljofngnaa.cyc zs n d).length ≤ j by rw [cyc_length]; omega)]
    rw [this]; unfold In64; decide
end
/-- All in a row, whichever it is. -/
def rvC (c : Bool) (sz dz : List Int) : Bool := if flawE c sz dz = 0 then c else false
def rvS (c : Bool) (sz dz : List Int) : List Int := if flawE c sz dz = 0 then [(dz.length : Int)] else []
def rvD (c : Bool) (sz dz : List Int) : List Int := if flawE c sz dz = 0 then dz else []
theorem ravel_uni (c : Bool) (sa : Option Addr) (sc : Nat) (sz : List Int) (da : Option Addr) (dc : Nat) (dz : List Int) (h1 : sz.length ≤ 9223372036854775807) (h2 : dz.length ≤ 9223372036854775807) (w : World) (hs : IsInts w.heap.size w sa sz) (hd : IsInts w.heap.size w da dz) :
    Calls Try.prog 10 #[.agg #[.bool c, .slice sa sz.length sc, .slice da dz.length dc]] w fun e w' => ∃ xa xc ya yc, e = .returned (.tuple #[.agg #[.bool (rvC c sz dz), .slice xa (rvS c sz dz).length xc, .slice ya (rvD c sz dz).length yc], errV (flawE c sz dz)]) ∧ NewInts w.heap.size w' xa (rvS c sz dz) ∧ NewInts w.heap.size w' ya (rvD c sz dz) ∧ Below w.heap.size w w' := by
  unfold rvC rvS rvD
  by_cases h : flawE c sz dz = 0
  · rw [if_pos h, if_pos h, if_pos h, h, errV_zero]
    exact ravel_ok c sa sc sz da dc dz h1 h2 w hs hd h
  · rw [if_neg h, if_neg h, if_neg h, errV_pos h]
    exact (ravel_no c sa sc sz da dc dz h1 h2 w hs hd h).mono fun e w' h' => ⟨none, 0, none, 0, h'.1, nil_new _ _, nil_new _ _, h'.2⟩
section
variable {f : Int} {c : Bool} {sz dz : List Int} {c' : Bool} {dz' : List Int}
theorem line_cells (h0 : flawE c sz dz = 0) (h1 : flawE c' sz dz' = 0) :
    (e2E f c sz dz c' sz dz' = 0 ↔ e2E f c [(dz.length : Int)] dz c' [(dz'.length : Int)] dz' = 0) ∧ e2V f c [(dz.length : Int)] dz c' [(dz'.length : Int)] dz' = e2V f c sz dz c' sz dz' := by
  have hl : (dz.length : Int) = dz'.length := by have := (flawE_zero h0).2.1; have := (flawE_zero h1).2.1; omega
  refine e2_congr ?_ ?_ fun i _ => ⟨rfl, rfl⟩
  · rw [e2F_zero, e2F_zero]
    constructor
    · rintro ⟨a, _, _, _, b⟩; exact ⟨a, flaw_line h0, flaw_line h1, .inr (.inr (by rw [hl])), b⟩
    · rintro ⟨a, _, _, _, b⟩; exact ⟨a, h0, h1, .inr (.inr rfl), b⟩
  · unfold e2N
    rw [hl, shp_self, shp_self, prod_line, e2N_len h1]; rfl
theorem line_alike (h0 : flawE c sz dz = 0) (h1 : flawE c' sz dz' = 0) (h : e2E f c sz dz c' sz dz' = 0) :
    alB false [((e2D f c sz dz c' sz dz').length : Int)] (e2D f c sz dz c' sz dz') 0 false (e2S f c [(dz.length : Int)] dz c' [(dz'.length : Int)] dz') (e2D f c [(dz.length : Int)] dz c' [(dz'.length : Int)] dz') 0 = true := by
  obtain ⟨hE, hV⟩ := line_cells (f := f) h0 h1
  have hl : (dz.length : Int) = dz'.length := by have := (flawE_zero h0).2.1; have := (flawE_zero h1).2.1; omega
  unfold e2S e2D
  rw [if_pos h, if_pos (hE.1 h), if_pos (hE.1 h), hV, hl, shp_self, e2V_length]
  have hn : e2N sz sz = dz'.length := by unfold e2N; rw [shp_self, e2N_len h1]
  rw [hn]
  refine al_ok Iff.rfl fun _ => ?_
  have := flaw_line (e2_flaw h)
  rw [e2V_length, hn] at this
  exact this
end
end Go.Proofs.Ytmbgomljofngnaa
