/-
  The reference's Det, and its minors.
-/
import Derived.Test.YtjaabemlpiafaaaDoorRdt
namespace Go.Proofs.YtjaabemlpiafaaaDoor
open Go.RowKit
set_option linter.unusedVariables false

theorem infoBool14 : (Tryd.prog.info? 4).map (fun i => (i.zero, i.size, i.bytes)) = some (some (.bool false), 1, 1) := by kernel_rfl
set_option maxRecDepth 100000 in
set_option maxHeartbeats 1000000 in
theorem det_ref (n : Nat) (hn : n ≤ 6) (N : Nat) (hN : N = n * n) (da : Option Addr) (dc : Nat) (dz : List Int) (hl : dz.length = N) (w : World) (hI : IsInts w.heap.size w da dz) :
    Calls Tryd.prog 8 #[.int .i64 (n : Nat), .slice da N dc] w fun e w' => e = .returned (.int .i64 (wrap64 (dt n (rdg n dz)))) ∧ Below w.heap.size w w' := by
  have hmk := run_make_row' (P := Tryd.prog) 47 4 (.bool false) 1 Tryd.underlying47 infoBool14 rfl .i64 .i64 n (by omega) (by omega)
  have hB0 : Below w.heap.size w (w.alloc (.cells (madeCells #[.bool false] n) 4)) := (Below.refl _ w).alloc (Nat.le_refl _) _
  have hD := determ_all n hn N hN da dc dz hl (cnt (out14 fun _ => false) n) (fun _ => false) w.heap.size (w.alloc (.cells (madeCells #[.bool false] n) 4)) rfl (World.rowIs_made w (.bool false) n 4) (hI.below hB0)
  rw [dU_none] at hD
  have HB0 : Hid (Below w.heap.size w (w.alloc (.cells (madeCells #[.bool false] n) 4))) := hB0
  clear hB0 hI hN hl
  go_enter Tryd.func8, Tryd.ntmps8
  go_wp2_with fail
  refine hD.mono ?_
  rintro e w1 ⟨rfl, _, hB⟩
  clear hD hmk
  go_wp2_with fail
  go_ret
  exact ⟨rfl, HB0.out.trans hB⟩
/-- A row's numbers in the columns of a set. -/
def rwL (A : Mx) (Sc : Nat → Bool) (i : Nat) : Nat → List Int
  | 0 => []
  | J + 1 => if Sc J = true then rwL A Sc i J ++ [A i J] else rwL A Sc i J
/-- The numbers of the rows of one set in the columns of another one. -/
def mnL (n : Nat) (A : Mx) (Sr Sc : Nat → Bool) : Nat → List Int
  | 0 => []
  | I + 1 => if Sr I = true then mnL n A Sr Sc I ++ rwL A Sc I n else mnL n A Sr Sc I
section
variable {A : Mx} {Sr Sc : Nat → Bool} {n : Nat}
theorem rwL_len (A : Mx) (Sc : Nat → Bool) (i : Nat) : ∀ J, (rwL A Sc i J).length = cnt Sc J
  | 0 => rfl
  | J + 1 => by
    rw [rwL, cnt]
    by_cases h : Sc J = true
    · rw [if_pos h, if_pos h, List.length_append, rwL_len A Sc i J]; rfl
    · rw [if_neg h, if_neg h, rwL_len A Sc i J]; rfl
theorem mnL_len (n : Nat) (A : Mx) (Sr Sc : Nat → Bool) : ∀ I, (mnL n A Sr Sc I).length = cnt Sr I * cnt Sc n
  | 0 => by simp [mnL, cnt]
  | I + 1 => by
    rw [mnL, cnt]
    by_cases h : Sr I = true
    · rw [if_pos h, if_pos h, List.length_append, mnL_len n A Sr Sc I, rwL_len, Nat.succ_mul]
    · rw [if_neg h, if_neg h, mnL_len n A Sr Sc I, Nat.add_zero]
theorem nth_app_l {l m : List Int} {k : Nat} (h : k < l.length) : nth (l ++ m) k = nth l k := by
  rw [nth_get _ _ (by rw [List.length_append]; omega), nth_get _ _ h, List.getElem_append_left]
theorem nth_app_r {l m : List Int} {k : Nat} (h : k < m.length) : nth (l ++ m) (l.length + k) = nth m k := by
  rw [nth_get _ _ (by rw [List.length_append]; omega), nth_get _ _ h, List.getElem_append_right (by omega)]
  congr 1
  omega
theorem rwL_nth (i : Nat) : ∀ {J c : Nat}, c < cnt Sc J → nth (rwL A Sc i J) c = A i (sel Sc J c)
  | 0, c, h => by simp [cnt] at h
  | J + 1, c, h => by
    rw [rwL]
    rw [cnt] at h
    by_cases hs : Sc J = true
    · rw [if_pos hs, sel_yes hs]
      rw [if_pos hs] at h
      by_cases h1 : c < cnt Sc J
      · rw [nth_app_l (by rw [rwL_len]; exact h1), rwL_nth i h1]
      · have e := sel_top Sc J 0
        simp only [Nat.add_zero] at e
        have hc : c = cnt Sc J := by omega
        have := nth_app_r (l := rwL A Sc i J) (m := [A i J]) (k := 0) (by simp)
        rw [rwL_len, Nat.add_zero] at this
        rw [hc, this, e]
        rfl
    · rw [if_neg hs, Nat.add_zero] at h
      rw [if_neg hs, sel_no hs, skp_lt (sel_in h).1, rwL_nth i h]
theorem mnL_nth {c : Nat} (hc : c < cnt Sc n) : ∀ {I r : Nat}, r < cnt Sr I → nth (mnL n A Sr Sc I) (r * cnt Sc n + c) = A (sel Sr I r) (sel Sc n c)
  | 0, r, h => by simp [cnt] at h
  | I + 1, r, h => by
    rw [mnL]
    rw [cnt] at h
    by_cases hs : Sr I = true
    · rw [if_pos hs, sel_yes hs]
      rw [if_pos hs] at h
      by_cases h1 : r < cnt Sr I
      · have hb : r * cnt Sc n + c < cnt Sr I * cnt Sc n := by
          have : (r + 1) * cnt Sc n ≤ cnt Sr I * cnt Sc n := Nat.mul_le_mul_right _ (by omega)
          rw [Nat.succ_mul] at this
          omega
        rw [nth_app_l (by rw [mnL_len]; exact hb), mnL_nth hc h1]
      · have e := sel_top Sr I 0
        simp only [Nat.add_zero] at e
        have hr : r = cnt Sr I := by omega
        have := nth_app_r (l := mnL n A Sr Sc I) (m := rwL A Sc I n) (k := c) (by rw [rwL_len]; exact hc)
        rw [mnL_len] at this
        rw [hr, this, e, rwL_nth I hc]
    · rw [if_neg hs, Nat.add_zero] at h
      rw [if_neg hs, sel_no hs, skp_lt (sel_in h).1, mnL_nth hc h]
theorem mnL_cls {m : Nat} (hr : cnt Sr n = m) (hc : cnt Sc n = m) : mnL n A Sr Sc n = cls m fun r c => A (sel Sr n r) (sel Sc n c) := by
  refine List.ext_getElem (by rw [mnL_len, cls_len, hr, hc]) fun p h1 h2 => ?_
  have hp : p < m * m := by rw [cls_len] at h2; exact h2
  obtain ⟨d1, d2, d3⟩ := div_row hp
  rw [← nth_get _ _ h1, ← nth_get _ _ h2, cls_nth _ hp]
  have := mnL_nth (A := A) (n := n) (Sr := Sr) (c := p % m) (by rw [hc]; exact d2) (I := n) (r := p / m) (by rw [hr]; exact d1)
  rw [hc, d3] at this
  exact this
theorem len_bd (n : Nat) (hn : n ≤ 6) (A : Mx) (Sr Sc : Nat → Bool) {I J : Nat} (hI : I ≤ n) (hJ : J ≤ n) : (mnL n A Sr Sc I ++ rwL A Sc I J).length ≤ 42 := by
  rw [List.length_append, mnL_len, rwL_len]
  have h1 : cnt Sr I ≤ 6 := by have := cnt_le Sr I; omega
  have h2 : cnt Sc n ≤ 6 := by have := cnt_le Sc n; omega
  have h3 : cnt Sc J ≤ 6 := by have := cnt_le Sc J; omega
  have := Nat.mul_le_mul h1 h2
  omega
end
set_option maxRecDepth 100000 in
set_option maxHeartbeats 1000000 in
theorem minor_any (n : Nat) (hn : n ≤ 6) (N : Nat) (hN : N = n * n) (da : Option Addr) (dc : Nat) (dz : List Int) (hl : dz.length = N) (Sr Sc : Nat → Bool) (B1 B2 : Nat) (w : World) (h1 : w.rowIs B1 4 n (bol Sr)) (h2 : w.rowIs B2 4 n (bol Sc)) (hI : IsInts w.heap.size w da dz) :
    Calls Tryd.prog 24 #[.int .i64 (n : Nat), .slice da N dc, .slice (some ⟨B1, 0, none⟩) n n, .slice (some ⟨B2, 0, none⟩) n n] w fun e w' => ∃ g c, e = .returned (.tuple #[.int .i64 (cnt Sr n : Nat), .slice g (mnL n (rdg n dz) Sr Sc n).length c]) ∧ NewC w.heap.size w' g (mnL n (rdg n dz) Sr Sc n) c ∧ Below w.heap.size w w' := by
  have HN : Hid (N = n * n ∧ dz.length = N) := ⟨hN, hl⟩
  have N36 : N ≤ 36 := by have : n * n ≤ 6 * 6 := Nat.mul_le_mul hn hn; omega
  have HI : Hid (IsInts w.heap.size w da dz) := hI
  have HC1 : Hid (∀ v, Below w.heap.size w v → ∀ i, i < n → v.cell? ⟨B1, i, none⟩ = some (.bool (Sr i))) := fun v hv i hi => (hv.cell (p := ⟨B1, i, none⟩) h1.lt).trans (h1.cell hi)
  have HC2 : Hid (∀ v, Below w.heap.size w v → ∀ i, i < n → v.cell? ⟨B2, i, none⟩ = some (.bool (Sc i))) := fun v hv i hi => (hv.cell (p := ⟨B2, i, none⟩) h2.lt).trans (h2.cell hi)
  obtain ⟨G, hG⟩ : ∃ G, G = mnL n (rdg n dz) Sr Sc := ⟨_, rfl⟩
  obtain ⟨H, hH⟩ : ∃ H, H = rwL (rdg n dz) Sc := ⟨_, rfl⟩
  have HG : Hid (G = mnL n (rdg n dz) Sr Sc ∧ H = rwL (rdg n dz) Sc) := ⟨hG, hH⟩
  rw [← hG]
  clear hN hl h1 h2 hI hG hH
  go_enter Tryd.func24, Tryd.ntmps24
  go_wp2_with fail
  go_loopw [10, 11, 12] (fun mm o i wr => ∃ I : Nat, I ≤ n ∧ i = .int .i64 I ∧ mm = .int .i64 (cnt Sr I : Nat) ∧ wr.ownsRow w.heap.size 3 1 o (G I).length ((G I).map (Value.int .i64)) ∧ Below w.heap.size w wr) (fun _ _ i _ => n - (intOf i).toNat)
  case atStart => exact ⟨0, Nat.zero_le _, rfl, rfl, by rw [HG.out.1]; exact World.ownsRow_nil _ _ _ _, Below.refl _ _⟩
  case round =>
    obtain ⟨I, hI, rfl, rfl, hO, hBl⟩ := hrel
    have HQ : Hid (wr.ownsRow w.heap.size 3 1 u11 (G I).length ((G I).map (Value.int .i64)) ∧ Below w.heap.size w wr) := ⟨hO, hBl⟩
    clear hO hBl
    by_cases hlt : I < n
    · have c0 := HC1.out _ HQ.out.2 I hlt
      obtain ⟨q, hq⟩ : ∃ q, q = cnt Sr I := ⟨_, rfl⟩
      have hq6 : q ≤ 6 := by have := cnt_le Sr I; omega
      cases hU : Sr I with
      | false =>
        rw [hU] at c0
        have HC : Hid (cnt Sr (I + 1) = q ∧ G (I + 1) = G I) := ⟨by rw [cnt, if_neg (by rw [hU]; decide), hq]; rfl, by rw [HG.out.1, mnL, if_neg (by rw [hU]; decide)]⟩
        rw [← hq]
        clear hq hU
        go_wp2_with fail
        exact ⟨⟨I + 1, by omega, by go_num, by rw [HC.out.1], by rw [HC.out.2]; exact HQ.out.1, HQ.out.2⟩, by simp [intOf]; omega⟩
      | true =>
        rw [hU] at c0
        have HC : Hid (cnt Sr (I + 1) = q + 1 ∧ G (I + 1) = G I ++ H I n) := ⟨by rw [cnt, if_pos hU, hq], by rw [HG.out.1, HG.out.2, mnL, if_pos hU]⟩
        rw [← hq]
        clear hq hU
        go_wp2_with fail
        clear c0
        obtain ⟨wk, hwk⟩ : ∃ x, x = wr := ⟨_, rfl⟩
        subst hwk
        go_loopw [11, 13] (fun o j wr => ∃ J : Nat, J ≤ n ∧ j = .int .i64 J ∧ wr.ownsRow w.heap.size 3 1 o (G I ++ H I J).length ((G I ++ H I J).map (Value.int .i64)) ∧ Below w.heap.size w wr) (fun _ j _ => n - (intOf j).toNat)
        case atStart => exact ⟨0, Nat.zero_le _, rfl, by rw [show G I ++ H I 0 = G I by rw [HG.out.2]; exact List.append_nil _]; exact HQ.out.1, HQ.out.2⟩
        case round =>
          clear HQ
          obtain ⟨J, hJ, rfl, hO, hBl⟩ := hrel
          obtain ⟨L, hL⟩ : ∃ L, L = G I ++ H I J := ⟨_, rfl⟩
          rw [← hL] at hO
          have HQ : Hid (wr.ownsRow w.heap.size 3 1 u11 L.length (L.map (Value.int .i64)) ∧ Below w.heap.size w wr) := ⟨hO, hBl⟩
          have HLn : Hid (L.length ≤ 42) := by rw [hL, HG.out.1, HG.out.2]; exact len_bd n hn _ _ _ (by omega) hJ
          clear hO hBl
          by_cases hjt : J < n
          · have c0 := HC2.out _ HQ.out.2 J hjt
            cases hU : Sc J with
            | false =>
              rw [hU] at c0
              have HE : Hid (G I ++ H I (J + 1) = L) := by show _ = _; rw [hL, HG.out.2, rwL, if_neg (by rw [hU]; decide)]
              clear hL hU
              go_wp2_with fail
              exact ⟨⟨J + 1, by omega, by go_num, by rw [HE.out]; exact HQ.out.1, HQ.out.2⟩, by simp [intOf]; omega⟩
            | true =>
              rw [hU] at c0
              obtain ⟨Pi, hPi⟩ : ∃ P, P = I * n := ⟨_, rfl⟩
              obtain ⟨X, hX⟩ : ∃ X, X = Pi + J := ⟨_, rfl⟩
              have hPii : (I : Int) * (n : Int) = (Pi : Int) := by rw [hPi]; simp
              have hXi : (Pi : Int) + (J : Int) = (X : Int) := by omega
              have bX : X < N := by rw [hX, hPi, HN.out.1]; exact row_lt hlt hjt
              have HX : Hid (X = I * n + J) := by show _ = _; rw [hX, hPi]
              clear hPi hX
              obtain ⟨bd, od, rfl, hbd, hcd⟩ := (HI.out.below HQ.out.2).at (q := X) (by rw [HN.out.2]; exact bX)
              have cd := hcd X (by rw [HN.out.2]; exact bX)
              obtain ⟨y, hy⟩ : ∃ x, x = nth dz X := ⟨_, rfl⟩
              rw [← hy] at cd
              have HE : Hid (G I ++ H I (J + 1) = L ++ [y]) := by
                show _ = _
                rw [hL, HG.out.2, rwL, if_pos hU, hy, HX.out, ← rdg_at hlt hjt, List.append_assoc]
              have HNw : Hid ((wr.alloc (.cells #[.int .i64 y] 3)).heap[wr.heap.size]? = some (.cells #[.int .i64 y] 3 (0, 0))) := World.alloc_heap_new _ _
              clear hL hU hcd hy
              go_wp2_with (at_builtin; refine app_list rfl _ _ rfl _ w.heap.size wr.heap.size u11 L y rfl rfl (HQ.out.1.alloc _) HNw.out (by have := HLn.out; omega) (by have := HQ.out.2.size; simp; omega) ?_; intro g1 gc1 w3 hown1 hB3)
              refine ⟨⟨J + 1, by omega, by go_num, ?_, HQ.out.2.trans (((Below.refl _ wr).alloc HQ.out.2.size _).trans hB3)⟩, by simp [intOf]; omega⟩
              rw [HE.out, List.length_append]
              exact hown1
          · obtain rfl : n = J := by omega
            have HE : Hid (L = G (I + 1)) := by show _ = _; rw [hL, HC.out.2]
            clear hL
            go_wp2_with fail
            exact ⟨⟨I + 1, by omega, by go_num, by rw [HC.out.1]; go_num, by rw [← HE.out]; exact HQ.out.1, HQ.out.2⟩, by simp [intOf]; omega⟩
    · obtain rfl : n = I := by omega
      obtain ⟨g, cap, e, hNC⟩ := own_cap HQ.out.1
      subst e
      go_wp2_with fail
      go_ret2
      exact ⟨g, cap, rfl, hNC, HQ.out.2⟩
end Go.Proofs.YtjaabemlpiafaaaDoor
