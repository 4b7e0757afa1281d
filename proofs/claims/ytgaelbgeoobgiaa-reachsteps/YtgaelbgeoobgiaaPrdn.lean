/-
  Plain mathematics of products of arrays: what Outer and Inner tell; of matrices.
-/
import Derived.Test.YtgaelbgeoobgiaaPrdm
import Derived.Test.YtgaelbgeoobgiaaFldl
namespace Go.Proofs.Ytgaelbgeoobgiaa
open Go.RowKit
set_option linter.unusedVariables false

/-! ### Outer -/
def otC (f : Int) (c : Bool) (s dz : List Int) (c' : Bool) (s' dz' t : List Int) : Int := tcV f (c == c') (cel s dz (t.take s.length)) (cel s' dz' (t.drop s.length))
def otX (f : Int) (c : Bool) (s dz : List Int) (c' : Bool) (s' dz' t : List Int) : Int := tcE f (c == c') (cel s dz (t.take s.length)) (cel s' dz' (t.drop s.length))
def otD (f : Int) (c : Bool) (s dz : List Int) (c' : Bool) (s' dz' : List Int) : List Int := TA (s ++ s') (otC f c s dz c' s' dz')
def otE (f : Int) (c : Bool) (s dz : List Int) (c' : Bool) (s' dz' : List Int) : Int :=
  if f < 1 ∨ 16 < f then 1 else if flawsE c s dz c' s' dz' ≠ 0 then flawsE c s dz c' s' dz' else if errOf (s ++ s') ≠ 0 then errOf (s ++ s')
  else if (c = true ∨ c' = true) ∧ f ≠ 8 ∧ f ≠ 9 then 6 else if okT (s ++ s') (otX f c s dz c' s' dz') = true then 0 else 6
section
variable {f g : Int} {c c' : Bool} {s dz s' dz' : List Int}
theorem otE_zero : otE f c s dz c' s' dz' = 0 ↔ ¬ (f < 1 ∨ 16 < f) ∧ (flawE c s dz = 0 ∧ flawE c' s' dz' = 0) ∧ errOf (s ++ s') = 0 ∧ ¬ ((c = true ∨ c' = true) ∧ f ≠ 8 ∧ f ≠ 9) ∧ ∀ t, insB (s ++ s') t = true → otX f c s dz c' s' dz' t = 0 := by
  unfold otE
  by_cases h : f < 1 ∨ 16 < f
  · rw [if_pos h]; exact ⟨fun e => absurd e (by decide), fun e => absurd h e.1⟩
  · rw [if_neg h]
    by_cases h1 : flawsE c s dz c' s' dz' = 0
    · rw [if_neg (not_not_intro h1)]
      by_cases h2 : errOf (s ++ s') = 0
      · rw [if_neg (not_not_intro h2)]
        by_cases h3 : (c = true ∨ c' = true) ∧ f ≠ 8 ∧ f ≠ 9
        · rw [if_pos h3]; exact ⟨fun e => absurd e (by decide), fun e => absurd h3 e.2.2.2.1⟩
        · rw [if_neg h3]
          by_cases h4 : okT (s ++ s') (otX f c s dz c' s' dz') = true
          · rw [if_pos h4]; exact ⟨fun _ => ⟨h, flawsE_zero.1 h1, h2, h3, (okT_iff h2).1 h4⟩, fun _ => rfl⟩
          · rw [if_neg h4]; exact ⟨fun e => absurd e (by decide), fun e => absurd ((okT_iff h2).2 e.2.2.2.2) h4⟩
      · rw [if_pos h2]; exact ⟨fun e => absurd e h2, fun e => absurd e.2.2.1 h2⟩
    · rw [if_pos h1]; exact ⟨fun e => absurd e h1, fun e => absurd (flawsE_zero.2 e.2.1) h1⟩
theorem ot_flaw (h : otE f c s dz c' s' dz' = 0) : flawE false (s ++ s') (otD f c s dz c' s' dz') = 0 := TA_flaw (otE_zero.1 h).2.2.1 (fun e => absurd e (by decide))
theorem tcV_64 {t : Bool} {a b : Int} (ha : In64 a) (hb : In64 b) : In64 (tcV f t a b) := by
  unfold tcV
  split
  · exact In64.two ha hb
  · exact In64.ifV _
theorem ot_64 (h : errOf (s ++ s') = 0) (T : ∀ j, In64 (nth dz j)) (T' : ∀ j, In64 (nth dz' j)) : ∀ j, In64 (nth (otD f c s dz c' s' dz') j) := TA_64 h fun t _ => tcV_64 (cel_64 T _) (cel_64 T' _)
/-- The indices of the one, and of the other. -/
theorem ins_parts {t : List Int} (h : insB (s ++ s') t = true) : insB s (t.take s.length) = true ∧ insB s' (t.drop s.length) = true := by
  have hl := insB_len h
  rw [List.length_append] at hl
  have e : t = t.take s.length ++ t.drop s.length := (List.take_append_drop _ _).symm
  rw [e] at h
  exact insB_append (by rw [List.length_take]; omega) h
/-! ### Inner -/
def inS (s s' : List Int) : List Int := s.take (s.length - 1) ++ s'.drop 1
def inN (s : List Int) : Int := nth s (s.length - 1)
def inU (s dz t : List Int) (k : Nat) : Int := cel s dz (t.take (s.length - 1) ++ [(k : Int)])
def inV (s s' dz' t : List Int) (k : Nat) : Int := cel s' dz' ((k : Int) :: t.drop (s.length - 1))
def inL (g : Int) (c : Bool) (s dz : List Int) (c' : Bool) (s' dz' t : List Int) : List Int := (List.range (inN s).toNat).map fun k => tcV g (c == c') (inU s dz t k) (inV s s' dz' t k)
def inO (g : Int) (c : Bool) (s dz : List Int) (c' : Bool) (s' dz' t : List Int) : Bool := (List.range (inN s).toNat).all fun k => tcE g (c == c') (inU s dz t k) (inV s s' dz' t k) == 0
def inX (f g : Int) (c : Bool) (s dz : List Int) (c' : Bool) (s' dz' t : List Int) : Int := if inO g c s dz c' s' dz' t = true then fdE f (inL g c s dz c' s' dz' t) else 6
def inD (f g : Int) (c : Bool) (s dz : List Int) (c' : Bool) (s' dz' : List Int) : List Int := TA (inS s s') fun t => fdV f (inL g c s dz c' s' dz' t)
def inE (f g : Int) (c : Bool) (s dz : List Int) (c' : Bool) (s' dz' : List Int) : Int :=
  if (f < 1 ∨ 16 < f) ∨ g < 1 ∨ 16 < g then 1 else if flawsE c s dz c' s' dz' ≠ 0 then flawsE c s dz c' s' dz' else if s.length = 0 ∨ s'.length = 0 then 3 else if inN s ≠ nth s' 0 then 4
  else if errOf (inS s s') ≠ 0 then errOf (inS s s') else if (c = true ∨ c' = true) ∧ g ≠ 8 ∧ g ≠ 9 then 6 else if inN s = 0 ∧ neutE f ≠ 0 then neutE f else if okT (inS s s') (inX f g c s dz c' s' dz') = true then 0 else 6
theorem inE_zero : inE f g c s dz c' s' dz' = 0 ↔ ((1 ≤ f ∧ f ≤ 16) ∧ 1 ≤ g ∧ g ≤ 16) ∧ (flawE c s dz = 0 ∧ flawE c' s' dz' = 0) ∧ (s.length ≠ 0 ∧ s'.length ≠ 0) ∧ inN s = nth s' 0 ∧ errOf (inS s s') = 0 ∧ ¬ ((c = true ∨ c' = true) ∧ g ≠ 8 ∧ g ≠ 9) ∧ ¬ (inN s = 0 ∧ neutE f ≠ 0) ∧ ∀ t, insB (inS s s') t = true → inX f g c s dz c' s' dz' t = 0 := by
  unfold inE
  by_cases h : (f < 1 ∨ 16 < f) ∨ g < 1 ∨ 16 < g
  · rw [if_pos h]; exact ⟨fun e => absurd e (by decide), fun e => by omega⟩
  · rw [if_neg h]
    by_cases h1 : flawsE c s dz c' s' dz' = 0
    · rw [if_neg (not_not_intro h1)]
      by_cases h2 : s.length = 0 ∨ s'.length = 0
      · rw [if_pos h2]; exact ⟨fun e => absurd e (by decide), fun e => by omega⟩
      · rw [if_neg h2]
        by_cases h3 : inN s = nth s' 0
        · rw [if_neg (not_not_intro h3)]
          by_cases h4 : errOf (inS s s') = 0
          · rw [if_neg (not_not_intro h4)]
            by_cases h5 : (c = true ∨ c' = true) ∧ g ≠ 8 ∧ g ≠ 9
            · rw [if_pos h5]; exact ⟨fun e => absurd e (by decide), fun e => absurd h5 e.2.2.2.2.2.1⟩
            · rw [if_neg h5]
              by_cases h6 : inN s = 0 ∧ neutE f ≠ 0
              · rw [if_pos h6]; exact ⟨fun e => absurd e h6.2, fun e => absurd h6 e.2.2.2.2.2.2.1⟩
              · rw [if_neg h6]
                by_cases h7 : okT (inS s s') (inX f g c s dz c' s' dz') = true
                · rw [if_pos h7]; exact ⟨fun _ => ⟨by omega, flawsE_zero.1 h1, by omega, h3, h4, h5, h6, (okT_iff h4).1 h7⟩, fun _ => rfl⟩
                · rw [if_neg h7]; exact ⟨fun e => absurd e (by decide), fun e => absurd ((okT_iff h4).2 e.2.2.2.2.2.2.2) h7⟩
          · rw [if_pos h4]; exact ⟨fun e => absurd e h4, fun e => absurd e.2.2.2.2.1 h4⟩
        · rw [if_pos h3]; exact ⟨fun e => absurd e (by decide), fun e => absurd e.2.2.2.1 h3⟩
    · rw [if_pos h1]; exact ⟨fun e => absurd e h1, fun e => absurd (flawsE_zero.2 e.2.1) h1⟩
theorem in_flaw (h : inE f g c s dz c' s' dz' = 0) : flawE false (inS s s') (inD f g c s dz c' s' dz') = 0 := TA_flaw (inE_zero.1 h).2.2.2.2.1 (fun e => absurd e (by decide))
theorem inL_64 (T : ∀ j, In64 (nth dz j)) (T' : ∀ j, In64 (nth dz' j)) (t : List Int) : L64 (inL g c s dz c' s' dz' t) := L64.map fun k _ => tcV_64 (cel_64 T _) (cel_64 T' _)
theorem in_64 (h : errOf (inS s s') = 0) (T : ∀ j, In64 (nth dz j)) (T' : ∀ j, In64 (nth dz' j)) : ∀ j, In64 (nth (inD f g c s dz c' s' dz') j) := TA_64 h fun t _ => fdV_in (inL_64 T T' t)
end
/-! ### Matrices -/
def gm (m n : Int) (dz : List Int) : Nat → Nat → Int := fun i j => cel [m, n] dz [(i : Int), (j : Int)]
section
variable {m n k p : Int} {dz dz' : List Int}
theorem gm_64 (T : ∀ j, In64 (nth dz j)) : M64 (gm m n dz) := fun i j => cel_64 T _
theorem place_two (m n i j : Int) : place [m, n] [i, j] = i * n + j := by simp [place, prod]
theorem gm_nth {i j : Nat} {N : Nat} (hN : (N : Int) = n) : gm m n dz i j = nth dz (i * N + j) := by
  unfold gm cel
  rw [place_two, ← hN]
  congr 1
theorem ins_two {t : List Int} (h : insB [m, n] t = true) : ∃ i j : Nat, t = [(i : Int), (j : Int)] ∧ (i : Int) < m ∧ (j : Int) < n := by
  match t, h with
  | [], h => simp [insB] at h
  | [a], h => simp [insB] at h
  | [a, b], h =>
    have h1 := (ins_cons.1 h).1
    have h2 := (ins_cons.1 (ins_cons.1 h).2).1
    exact ⟨a.toNat, b.toNat, by rw [Int.toNat_of_nonneg h1.1, Int.toNat_of_nonneg h2.1], by omega, by omega⟩
  | _ :: _ :: _ :: _, h => simp [insB] at h
theorem ins_two' {i j : Nat} (hi : (i : Int) < m) (hj : (j : Int) < n) : insB [m, n] [(i : Int), (j : Int)] = true := ins_cons.2 ⟨⟨by omega, hi⟩, ins_cons.2 ⟨⟨by omega, hj⟩, rfl⟩⟩
theorem err_two (hm : 0 ≤ m ∧ m ≤ 64) (hn : 0 ≤ n ∧ n ≤ 64) : errOf [m, n] = 0 := by
  refine errOf_zero.2 ⟨by simp, fun x hx => ?_, ?_⟩
  · simp only [List.mem_cons, List.not_mem_nil, or_false] at hx
    rcases hx with rfl | rfl <;> omega
  · have h : m * n ≤ 64 * 64 := Int.mul_le_mul hm.2 hn.2 hn.1 (by omega)
    simp only [prod, Int.mul_one]
    omega
/-- Two matrices with the same cells. -/
theorem two_ext {xs : List Int} {G : Nat → Nat → Int} (he : errOf [m, n] = 0) (hl : (xs.length : Int) = prod [m, n]) (h : ∀ i j : Nat, (i : Int) < m → (j : Int) < n → gm m n xs i j = G i j) : xs = TA [m, n] fun t => G (nth t 0).toNat (nth t 1).toNat :=
  TA_ext he (by omega) fun t ht => by
    obtain ⟨i, j, rfl, hi, hj⟩ := ins_two ht
    exact h i j hi hj
theorem gm_TA {G : List Int → Int} (he : errOf [m, n] = 0) {i j : Nat} (hi : (i : Int) < m) (hj : (j : Int) < n) : gm m n (TA [m, n] G) i j = G [(i : Int), (j : Int)] := TA_at he (ins_two' hi hj)
theorem imm_congr {f g : Int} {K i j : Nat} {A A' B B' : Nat → Nat → Int} (h : ∀ l, l < K → A i l = A' i l ∧ B l j = B' l j) : imm f g K A B i j = imm f g K A' B' i j := by
  unfold imm
  congr 1
  exact List.map_congr_left fun l hl => by rw [(h l (List.mem_range.1 hl)).1, (h l (List.mem_range.1 hl)).2]
/-- Inner of two matrices of numbers. -/
theorem in_two {f g : Int} (hf : Mon f) (hg : Mon g) (h1 : flawE false [m, k] dz = 0) (h2 : flawE false [k, n] dz' = 0) (he : errOf [m, n] = 0) (T : ∀ j, In64 (nth dz j)) (T' : ∀ j, In64 (nth dz' j)) :
    inE f g false [m, k] dz false [k, n] dz' = 0 ∧ inS [m, k] [k, n] = [m, n] ∧ inD f g false [m, k] dz false [k, n] dz' = TA [m, n] fun t => imm f g k.toNat (gm m k dz) (gm k n dz') (nth t 0).toNat (nth t 1).toNat := by
  refine ⟨inE_zero.2 ⟨⟨hf.fn, hg.fn⟩, ⟨h1, h2⟩, ⟨by simp, by simp⟩, rfl, he, fun e => by simp at e, fun e => e.2 hf.ne, fun t _ => ?_⟩, rfl, ?_⟩
  · unfold inX
    have hO : inO g false [m, k] dz false [k, n] dz' t = true := by
      unfold inO
      rw [List.all_eq_true]
      intro i _
      show (tcE g (false == false) _ _ == 0) = true
      unfold tcE
      simp [hg.te]
    rw [if_pos hO]
    exact hf.ok (inL_64 T T' t)
  · show TA [m, n] _ = _
    refine TA_congr he fun t ht => ?_
    obtain ⟨i, j, rfl, hi, hj⟩ := ins_two ht
    show fdV f (inL g false [m, k] dz false [k, n] dz' [(i : Int), (j : Int)]) = imm f g k.toNat (gm m k dz) (gm k n dz') i j
    rfl
theorem in_two_at {f g : Int} (hf : Mon f) (hg : Mon g) (h1 : flawE false [m, k] dz = 0) (h2 : flawE false [k, n] dz' = 0) (he : errOf [m, n] = 0) (T : ∀ j, In64 (nth dz j)) (T' : ∀ j, In64 (nth dz' j)) {i j : Nat} (hi : (i : Int) < m) (hj : (j : Int) < n) :
    gm m n (inD f g false [m, k] dz false [k, n] dz') i j = imm f g k.toNat (gm m k dz) (gm k n dz') i j := by
  rw [(in_two hf hg h1 h2 he T T').2.2, gm_TA he hi hj]
  rfl
/-- Whichever two come first. -/
theorem in_chain {f g : Int} {dc : List Int} (h : Srg f g) (h1 : flawE false [m, k] dz = 0) (h2 : flawE false [k, n] dz' = 0) (h3 : flawE false [n, p] dc = 0) (e1 : errOf [m, n] = 0) (e2 : errOf [k, p] = 0) (e3 : errOf [m, p] = 0) (T : ∀ j, In64 (nth dz j)) (T' : ∀ j, In64 (nth dz' j)) (T'' : ∀ j, In64 (nth dc j)) :
    inD f g false [m, n] (inD f g false [m, k] dz false [k, n] dz') false [n, p] dc = inD f g false [m, k] dz false [k, p] (inD f g false [k, n] dz' false [n, p] dc) := by
  have a1 := in_two h.su h.pr h1 h2 e1 T T'
  have a2 := in_two h.su h.pr h2 h3 e2 T' T''
  have t1 := in_64 (f := f) (g := g) (c := false) (c' := false) (s := [m, k]) (s' := [k, n]) e1 T T'
  have t2 := in_64 (f := f) (g := g) (c := false) (c' := false) (s := [k, n]) (s' := [n, p]) e2 T' T''
  rw [(in_two h.su h.pr (in_flaw a1.1) h3 e3 t1 T'').2.2, (in_two h.su h.pr h1 (in_flaw a2.1) e3 T t2).2.2]
  refine TA_congr e3 fun t ht => ?_
  obtain ⟨i, j, rfl, hi, hj⟩ := ins_two ht
  show imm f g n.toNat _ _ i j = imm f g k.toNat _ _ i j
  rw [imm_congr (A' := imm f g k.toNat (gm m k dz) (gm k n dz')) (B' := gm n p dc) fun l hl => ⟨in_two_at h.su h.pr h1 h2 e1 T T' hi (by omega), rfl⟩,
    h.chain (gm_64 T) (gm_64 T') (gm_64 T'')]
  exact (imm_congr fun l hl => ⟨rfl, in_two_at h.su h.pr h2 h3 e2 T' T'' (by omega) hj⟩).symm
/-- Flipped. -/
def flp2 (m n : Int) (dz : List Int) : List Int := TA [n, m] fun t => gm m n dz (nth t 1).toNat (nth t 0).toNat
theorem flp2_at (he : errOf [n, m] = 0) {i j : Nat} (hi : (i : Int) < m) (hj : (j : Int) < n) : gm n m (flp2 m n dz) j i = gm m n dz i j := by
  unfold flp2
  rw [gm_TA he hj hi]
  rfl
theorem flp2_flaw (he : errOf [n, m] = 0) : flawE false [n, m] (flp2 m n dz) = 0 := TA_flaw he (fun e => absurd e (by decide))
theorem flp2_64 (he : errOf [n, m] = 0) (T : ∀ j, In64 (nth dz j)) : ∀ j, In64 (nth (flp2 m n dz) j) := TA_64 he fun t _ => gm_64 T _ _
/-- As Flip tells it. -/
theorem flp2_is {c : Bool} (he : errOf [m, n] = 0) (h' : errOf [n, m] = 0) : axErr [m, n] [1, 0] = 0 ∧ axVal [m, n] [1, 0] = [n, m] ∧ GA [m, n] dz [n, m] (flpT [1, 0]) = flp2 m n dz := by
  have ho : ordB [1, 0] = true := by decide
  have ha : axErr [m, n] [1, 0] = 0 := by unfold axErr; rw [if_neg (not_not_intro he), if_neg (by simp), if_pos ho]
  refine ⟨ha, ?_, ?_⟩
  · have hs := axVal_spec ha
    refine nth_ext hs.1 fun j hj => ?_
    rw [hs.1] at hj
    have hj2 : j < 2 := hj
    have k0 := hs.2 0 (by simp)
    have k1 := hs.2 1 (by simp)
    match j, hj2 with
    | 0, _ => exact k1
    | 1, _ => exact k0
  · rw [GA_TA]
    refine TA_congr h' fun t ht => ?_
    obtain ⟨i, j, rfl, hi, hj⟩ := ins_two ht
    rfl
theorem in_turned {f g : Int} (h : Srg f g) (h1 : flawE false [m, k] dz = 0) (h2 : flawE false [k, n] dz' = 0) (e1 : errOf [m, n] = 0) (e2 : errOf [n, m] = 0) (e3 : errOf [k, m] = 0) (e4 : errOf [n, k] = 0) (T : ∀ j, In64 (nth dz j)) (T' : ∀ j, In64 (nth dz' j)) :
    flp2 m n (inD f g false [m, k] dz false [k, n] dz') = inD f g false [n, k] (flp2 k n dz') false [k, m] (flp2 m k dz) := by
  rw [(in_two h.su h.pr (flp2_flaw e4) (flp2_flaw e3) e2 (flp2_64 e4 T') (flp2_64 e3 T)).2.2]
  refine TA_congr e2 fun t ht => ?_
  obtain ⟨j, i, rfl, hj, hi⟩ := ins_two ht
  show gm m n (inD f g false [m, k] dz false [k, n] dz') i j = imm f g k.toNat _ _ j i
  rw [in_two_at h.su h.pr h1 h2 e1 T T' hi hj, h.turned (gm_64 T) (gm_64 T')]
  refine imm_congr fun l hl => ⟨?_, ?_⟩
  · exact (flp2_at (dz := dz') e4 (show (l : Int) < k by omega) hj).symm
  · exact (flp2_at (dz := dz) e3 hi (show (l : Int) < k by omega)).symm
/-- Sums, cell by cell. -/
theorem gm_e2 {f : Int} (hm : Mon f) (he : errOf [m, n] = 0) (h1 : flawE false [m, n] dz = 0) (h2 : flawE false [m, n] dz' = 0) :
    e2E f false [m, n] dz false [m, n] dz' = 0 ∧ shp [m, n] [m, n] = [m, n] ∧ flawE false [m, n] (e2V f false [m, n] dz false [m, n] dz') = 0 ∧ e2V f false [m, n] dz false [m, n] dz' = TA [m, n] (fun t => twoV f (cel [m, n] dz t) (cel [m, n] dz' t)) := by
  have h := e2_mon (f := f) (S := [m, n]) (u := cel [m, n] dz) (v := cel [m, n] dz') hm he
  rw [TA_self he (flawE_zero h1).2.1, TA_self he (flawE_zero h2).2.1] at h
  exact ⟨h.1, h.2.1, by rw [h.2.2]; exact TA_flaw he (fun e => absurd e (by decide)), h.2.2⟩
theorem in_sum_right {da db dc : List Int} (ha : flawE false [m, k] da = 0) (hb : flawE false [k, n] db = 0) (hc : flawE false [k, n] dc = 0) (e1 : errOf [m, n] = 0) (Ta : ∀ j, In64 (nth da j)) (Tb : ∀ j, In64 (nth db j)) (Tc : ∀ j, In64 (nth dc j)) :
    inD 1 3 false [m, k] da false [k, n] (e2V 1 false [k, n] db false [k, n] dc) = e2V 1 false [m, n] (inD 1 3 false [m, k] da false [k, n] db) false [m, n] (inD 1 3 false [m, k] da false [k, n] dc) := by
  have e2 := (flawE_zero hb).1
  have hs := gm_e2 srg13.su e2 hb hc
  have ts : ∀ j, In64 (nth (e2V 1 false [k, n] db false [k, n] dc) j) := by rw [hs.2.2.2]; exact TA_64 e2 fun t _ => In64.two (cel_64 Tb _) (cel_64 Tc _)
  have pb := in_two srg13.su srg13.pr ha hb e1 Ta Tb
  have pc := in_two srg13.su srg13.pr ha hc e1 Ta Tc
  rw [(in_two srg13.su srg13.pr ha hs.2.2.1 e1 Ta ts).2.2, (gm_e2 srg13.su e1 (in_flaw pb.1) (in_flaw pc.1)).2.2.2]
  refine TA_congr e1 fun t ht => ?_
  obtain ⟨i, j, rfl, hi, hj⟩ := ins_two ht
  show imm 1 3 k.toNat _ _ i j = twoV 1 (gm m n _ i j) (gm m n _ i j)
  rw [in_two_at srg13.su srg13.pr ha hb e1 Ta Tb hi hj, in_two_at srg13.su srg13.pr ha hc e1 Ta Tc hi hj, ← imm_add_right (gm_64 Ta) (gm_64 Tb) (gm_64 Tc)]
  refine imm_congr fun l hl => ⟨rfl, ?_⟩
  rw [hs.2.2.2, gm_TA e2 (by omega) hj]
  rfl
theorem in_sum_left {da db dc : List Int} (ha : flawE false [k, n] da = 0) (hb : flawE false [m, k] db = 0) (hc : flawE false [m, k] dc = 0) (e1 : errOf [m, n] = 0) (Ta : ∀ j, In64 (nth da j)) (Tb : ∀ j, In64 (nth db j)) (Tc : ∀ j, In64 (nth dc j)) :
    inD 1 3 false [m, k] (e2V 1 false [m, k] db false [m, k] dc) false [k, n] da = e2V 1 false [m, n] (inD 1 3 false [m, k] db false [k, n] da) false [m, n] (inD 1 3 false [m, k] dc false [k, n] da) := by
  have e2 := (flawE_zero hb).1
  have hs := gm_e2 srg13.su e2 hb hc
  have ts : ∀ j, In64 (nth (e2V 1 false [m, k] db false [m, k] dc) j) := by rw [hs.2.2.2]; exact TA_64 e2 fun t _ => In64.two (cel_64 Tb _) (cel_64 Tc _)
  have pb := in_two srg13.su srg13.pr hb ha e1 Tb Ta
  have pc := in_two srg13.su srg13.pr hc ha e1 Tc Ta
  rw [(in_two srg13.su srg13.pr hs.2.2.1 ha e1 ts Ta).2.2, (gm_e2 srg13.su e1 (in_flaw pb.1) (in_flaw pc.1)).2.2.2]
  refine TA_congr e1 fun t ht => ?_
  obtain ⟨i, j, rfl, hi, hj⟩ := ins_two ht
  show imm 1 3 k.toNat _ _ i j = twoV 1 (gm m n _ i j) (gm m n _ i j)
  rw [in_two_at srg13.su srg13.pr hb ha e1 Tb Ta hi hj, in_two_at srg13.su srg13.pr hc ha e1 Tc Ta hi hj, ← imm_add_left (gm_64 Ta) (gm_64 Tb) (gm_64 Tc)]
  refine imm_congr fun l hl => ⟨?_, rfl⟩
  rw [hs.2.2.2, gm_TA e2 hi (by omega)]
  rfl
/-- Each index held against each. -/
theorem ot_unit {z : List Int} (hf : flawE false [m] z = 0) (he : errOf [m, m] = 0) (hz : ∀ i : Nat, (i : Int) < m → nth z i = i) :
    otE 8 false [m] z false [m] z = 0 ∧ otD 8 false [m] z false [m] z = TA [m, m] fun t => idM (nth t 0).toNat (nth t 1).toNat := by
  refine ⟨otE_zero.2 ⟨by omega, ⟨hf, hf⟩, he, fun e => by simp at e, fun t _ => ?_⟩, ?_⟩
  · unfold otX
    show tcE 8 (false == false) _ _ = 0
    unfold tcE
    rw [if_pos (show (false == false) = true from rfl)]
    exact te0 (by decide) (by decide) (fun e => absurd e (by decide)) (fun e => absurd e (by decide))
  · show TA [m, m] _ = _
    refine TA_congr he fun t ht => ?_
    obtain ⟨i, j, rfl, hi, hj⟩ := ins_two ht
    have e1 : cel [m] z [(i : Int)] = (i : Int) := by unfold cel; rw [show place [m] [(i : Int)] = i by simp [place, prod]]; exact hz i hi
    have e2 : cel [m] z [(j : Int)] = (j : Int) := by unfold cel; rw [show place [m] [(j : Int)] = j by simp [place, prod]]; exact hz j hj
    show tcV 8 (false == false) (cel [m] z [(i : Int)]) (cel [m] z [(j : Int)]) = idM i j
    unfold tcV
    rw [if_pos (show (false == false) = true from rfl), e1, e2, tv8]
    unfold idM ifV
    by_cases e : i = j
    · subst e; simp
    · rw [if_neg e, if_neg (by simp; omega)]
theorem in_unit_left {u : List Int} (hd : flawE false [m, n] dz = 0) (em : errOf [m, m] = 0) (hu : u = TA [m, m] fun t => idM (nth t 0).toNat (nth t 1).toNat) (T : ∀ j, In64 (nth dz j)) :
    flawE false [m, m] u = 0 ∧ (∀ j, In64 (nth u j)) ∧ inD 1 3 false [m, m] u false [m, n] dz = dz := by
  have e1 := (flawE_zero hd).1
  have fu : flawE false [m, m] u = 0 := by rw [hu]; exact TA_flaw em (fun e => absurd e (by decide))
  have tu : ∀ j, In64 (nth u j) := by rw [hu]; exact TA_64 em fun t _ => idM_64 _ _
  refine ⟨fu, tu, ?_⟩
  rw [(in_two srg13.su srg13.pr fu hd e1 tu T).2.2]
  refine TA_is e1 (flawE_zero hd).2.1 fun t ht => ?_
  obtain ⟨i, j, rfl, hi, hj⟩ := ins_two ht
  show imm 1 3 m.toNat _ _ i j = gm m n dz i j
  rw [imm_congr (A' := idM) (B' := gm m n dz) fun l hl => ⟨by rw [hu, gm_TA em hi (by omega)]; rfl, rfl⟩, imm_id_left (gm_64 T) (by omega)]
theorem in_unit_right {u : List Int} (hd : flawE false [m, n] dz = 0) (en : errOf [n, n] = 0) (hu : u = TA [n, n] fun t => idM (nth t 0).toNat (nth t 1).toNat) (T : ∀ j, In64 (nth dz j)) :
    flawE false [n, n] u = 0 ∧ (∀ j, In64 (nth u j)) ∧ inD 1 3 false [m, n] dz false [n, n] u = dz := by
  have e1 := (flawE_zero hd).1
  have fu : flawE false [n, n] u = 0 := by rw [hu]; exact TA_flaw en (fun e => absurd e (by decide))
  have tu : ∀ j, In64 (nth u j) := by rw [hu]; exact TA_64 en fun t _ => idM_64 _ _
  refine ⟨fu, tu, ?_⟩
  rw [(in_two srg13.su srg13.pr hd fu e1 T tu).2.2]
  refine TA_is e1 (flawE_zero hd).2.1 fun t ht => ?_
  obtain ⟨i, j, rfl, hi, hj⟩ := ins_two ht
  show imm 1 3 n.toNat _ _ i j = gm m n dz i j
  rw [imm_congr (A' := gm m n dz) (B' := idM) fun l hl => ⟨rfl, by rw [hu, gm_TA en (by omega) hj]; rfl⟩, imm_id_right (gm_64 T) i (by omega)]
end
end Go.Proofs.Ytgaelbgeoobgiaa
