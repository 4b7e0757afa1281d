/-
  The walk of the statement RadixHorner, given what the program tells.
-/
import Derived.Test.YtigichhcoflaiaaRdh
import Derived.Test.YtigichhcoflaiaaJoinc
namespace Go.Proofs.Ytigichhcoflaiaa
open Go.RowKit
set_option linter.unusedVariables false

theorem fact_horner : vaV [10, 10] [4, 2] = 42 := by
  show wrap64 ((0 * 10 + 4) * 10 + 2) = 42
  rw [w_small (by omega) (by omega)]
  rfl
theorem va_join {b c d e : List Int} (hl : d.length = b.length) : wrap64 (wrap64 (vaV b d * wrap64 (pk c c.length)) + vaV c e) = vaV (b ++ c) (d ++ e) := by
  unfold vaV
  rw [hv_join hl, List.length_append]
/-- Digits added, one by one. -/
def smL (e f : List Int) : List Int := (List.range e.length).map fun k : Nat => wrap64 (nth e k + nth f k)
theorem smL_length (e f : List Int) : (smL e f).length = e.length := by simp [smL]
theorem smL_nth {e f : List Int} {k : Nat} (h : k < e.length) : nth (smL e f) k = wrap64 (nth e k + nth f k) := by
  rw [nth_get _ _ (by rw [smL_length]; exact h)]; simp [smL]
theorem va_sum {c e f : List Int} (hl : e.length = c.length) : vaV c (smL e f) = wrap64 (vaV c e + vaV c f) := by
  unfold vaV
  exact hv_add fun i hi => smL_nth (by omega)
/-- As far as they are added. -/
def smR (e f : List Int) (k j : Nat) : Value := if j < k then .int .i64 (wrap64 (nth e j + nth f j)) else .int .i64 0
theorem smR_zero (e f : List Int) (j : Nat) : smR e f 0 j = .int .i64 0 := by simp [smR]
theorem smR_next {wr : World} {B : Nat} {t : TypeId} {e f : List Int} {n k : Nat} (h : wr.rowIs B t n (smR e f k)) : (wr.setCell ⟨B, k, none⟩ (.int .i64 (wrap64 (nth e k + nth f k)))).rowIs B t n (smR e f (k + 1)) := by
  refine (h.set k _).congr fun j hj => ?_
  unfold smR
  by_cases e1 : j = k
  · subst e1; simp
  · rw [if_neg e1]
    by_cases h1 : j < k
    · rw [if_pos h1, if_pos (by omega)]
    · rw [if_neg h1, if_neg (by omega)]
theorem smR_all {wr : World} {B : Nat} {t : TypeId} {e f : List Int} {k : Nat} (hk : k = e.length) (h : wr.rowIs B t e.length (smR e f k)) {lo : Nat} (hlo : lo ≤ B) : NewC lo wr (some ⟨B, 0, none⟩) (smL e f) e.length :=
  ⟨.inr ⟨B, 0, rfl, hlo, h.lt, fun j hj => by
    rw [smL_length] at hj
    rw [Nat.zero_add, smL_nth hj]
    have := h.cell hj
    rw [this]
    unfold smR
    rw [if_pos (by omega)], fun j => h.frozen _⟩, by rw [smL_length]; exact Nat.le_refl _⟩
set_option maxRecDepth 100000 in
set_option maxHeartbeats 8000000 in
theorem rhorner_walk (HV : CVa) (a1 : Option Addr) (c1 : Nat) (b : List Int) (x1 : b.length ≤ 9223372036854775807) (a2 : Option Addr) (c2 : Nat) (c : List Int) (x2 : c.length ≤ 9223372036854775807) (a3 : Option Addr) (c3 : Nat) (d : List Int) (x3 : d.length ≤ 9223372036854775807) (a4 : Option Addr) (c4 : Nat) (e : List Int) (x4 : e.length ≤ 9223372036854775807) (a5 : Option Addr) (c5 : Nat) (f : List Int) (x5 : f.length ≤ 9223372036854775807) (w : World) (w1 : IsInts w.heap.size w a1 b) (w2 : IsInts w.heap.size w a2 c) (w3 : IsInts w.heap.size w a3 d) (w4 : IsInts w.heap.size w a4 e) (w5 : IsInts w.heap.size w a5 f) :
    Calls Try.prog 5 #[.slice a1 b.length c1, .slice a2 c.length c2, .slice a3 d.length c3, .slice a4 e.length c4, .slice a5 f.length c5] w fun r w' => r = .returned (.bool true) ∧ Below w.heap.size w w' := by
  have HI1 : Hid (∀ u, Below w.heap.size w u → IsInts u.heap.size u a1 b) := fun u hu => (w1.below hu).mono hu.size
  have HI2 : Hid (∀ u, Below w.heap.size w u → IsInts u.heap.size u a2 c) := fun u hu => (w2.below hu).mono hu.size
  have HI3 : Hid (∀ u, Below w.heap.size w u → IsInts u.heap.size u a3 d) := fun u hu => (w3.below hu).mono hu.size
  have HI4 : Hid (∀ u, Below w.heap.size w u → IsInts u.heap.size u a4 e) := fun u hu => (w4.below hu).mono hu.size
  have HI5 : Hid (∀ u, Below w.heap.size w u → IsInts u.heap.size u a5 f) := fun u hu => (w5.below hu).mono hu.size
  have HL4 : Hid (IsInts w.heap.size w a4 e) := w4
  have HL5 : Hid (IsInts w.heap.size w a5 f) := w5
  have HL2 : Hid (IsInts w.heap.size w a2 c) := w2
  clear w1 w2 w3 w4 w5
  have n1 := lit_mid w 3 [10, 10] 2 rfl
  have n2 := lit_mid (w.alloc (.cells #[.int .i64 10, .int .i64 10] 3)) 3 [4, 2] 2 rfl
  have n3 := n1.al (by simp) (.cells #[.int .i64 4, .int .i64 2] 3)
  simp only [List.map_cons, List.map_nil, World.size_alloc] at n1 n2 n3
  have HN : Hid (_ ∧ _) := ⟨n3, n2⟩
  have hB0 : Below w.heap.size w ((w.alloc (.cells #[.int .i64 10, .int .i64 10] 3)).alloc (.cells #[.int .i64 4, .int .i64 2] 3)) := ((Below.refl _ w).alloc (Nat.le_refl _) _).alloc (by simp) _
  have HB0 : Hid (_ ) := hB0
  clear n1 n2 n3 hB0
  go_enter Try.func5, Try.ntmps5
  go_wp2_with fail
  obtain ⟨u, hu⟩ : ∃ u, u = ((w.alloc (.cells #[.int .i64 10, .int .i64 10] 3)).alloc (.cells #[.int .i64 4, .int .i64 2] 3)) := ⟨_, rfl⟩
  have hz : u.heap.size = w.heap.size + 2 := by rw [hu]; simp
  rw [← hu] at HN HB0 ⊢
  clear hu
  refine (va_ok (some ⟨w.heap.size, 0, none⟩) 2 [10, 10] 2 rfl (some ⟨w.heap.size + 1, 0, none⟩) 2 [4, 2] 2 rfl u (by decide) rfl (HN.out.1.is (by omega)).1 (HN.out.2.is (by omega)).1 42 HV fact_horner).mono ?_
  rintro r v1 ⟨rfl, hB⟩
  have hb : Below w.heap.size w v1 := HB0.out.trans (hB.mono HB0.out.size)
  clear hB HB0 HN hz
  by_cases g1 : 2000 < b.length
  · go_wp2_with fail
    go_ret
    exact ⟨rfl, hb⟩
  by_cases g2 : 2000 < c.length
  · go_wp2_with fail
    go_ret
    exact ⟨rfl, hb⟩
  by_cases g3 : d.length = b.length
  rotate_left
  · have hne : ((d.length : Int) != (b.length : Int)) = true := by rw [bne_iff_ne]; omega
    clear g3
    go_wp2_with fail
    go_ret
    exact ⟨rfl, hb⟩
  have hne3 : ((d.length : Int) != (b.length : Int)) = false := by rw [g3]; simp
  by_cases g4 : e.length = c.length
  rotate_left
  · have hne : ((e.length : Int) != (c.length : Int)) = true := by rw [bne_iff_ne]; omega
    clear g3 g4
    go_wp2_with fail
    go_ret
    exact ⟨rfl, hb⟩
  have hne4 : ((e.length : Int) != (c.length : Int)) = false := by rw [g4]; simp
  obtain ⟨X, hX⟩ : ∃ X, X = vaV b d := ⟨_, rfl⟩
  obtain ⟨Y, hY⟩ : ∃ Y, Y = vaV c e := ⟨_, rfl⟩
  obtain ⟨Z, hZ⟩ : ∃ Z, Z = vaV (b ++ c) (d ++ e) := ⟨_, rfl⟩
  have HVV : Hid (vaV b d = X ∧ vaV c e = Y ∧ vaV (b ++ c) (d ++ e) = Z) := ⟨hX.symm, hY.symm, hZ.symm⟩
  have HLL : Hid (d.length = b.length ∧ e.length = c.length) := ⟨g3, g4⟩
  have HZ : Hid (wrap64 (wrap64 (X * wrap64 (pk c c.length)) + Y) = Z) := by show _ = _; rw [hX, hY, hZ]; exact va_join g3
  clear hX hY hZ g3 g4
  go_wp2_with fail
  refine (va_ok a1 c1 b b.length rfl a3 c3 d d.length rfl v1 (by omega) HLL.out.1 (HI1.out _ hb) (HI3.out _ hb) X HV HVV.out.1).mono ?_
  rintro r v2 ⟨rfl, hB⟩
  replace hb := hb.trans (hB.mono hb.size)
  clear hB
  go_wp2_with fail
  refine (va_ok a2 c2 c c.length rfl a4 c4 e e.length rfl v2 (by omega) HLL.out.2 (HI2.out _ hb) (HI4.out _ hb) Y HV HVV.out.2.1).mono ?_
  rintro r v3 ⟨rfl, hB⟩
  replace hb := hb.trans (hB.mono hb.size)
  clear hB
  go_wp2_with fail
  refine (joinc_any a1 c1 b a2 c2 c (by omega) (by omega) v3 (HI1.out _ hb) (HI2.out _ hb)).mono ?_
  rintro r v4 ⟨g, gc, s, rfl, hs, hN, hB⟩
  replace hb := hb.trans (hB.mono hb.size)
  have HN : Hid (NewC v3.heap.size v4 g s gc) := hN
  clear hB hN
  go_wp2_with fail
  refine (joinc_any a3 c3 d a4 c4 e (by have := HLL.out.1; omega) (by have := HLL.out.2; omega) v4 (HI3.out _ hb) (HI4.out _ hb)).mono ?_
  rintro r v5 ⟨g', gc', s', rfl, hs', hN', hB⟩
  replace hb := hb.trans (hB.mono hb.size)
  have HN2 : Hid (IsInts v5.heap.size v5 g s ∧ IsInts v5.heap.size v5 g' s') := ⟨(HN.out.go hB).ints.1, hN'.ints.1⟩
  have HS : Hid (s.length ≤ 4096 ∧ s'.length = s.length ∧ vaV s s' = Z) := by
    have h1 := HLL.out
    rw [hs.out, hs'.out]
    exact ⟨by rw [List.length_append]; omega, by rw [List.length_append, List.length_append]; omega, HVV.out.2.2⟩
  clear hB HN hN' hs hs'
  go_wp2_with fail
  refine (va_ok g gc s s.length rfl g' gc' s' s'.length rfl v5 HS.out.1 HS.out.2.1 HN2.out.1 HN2.out.2 Z HV HS.out.2.2).mono ?_
  rintro r v6 ⟨rfl, hB⟩
  replace hb := hb.trans (hB.mono hb.size)
  clear hB HN2 HS
  have HB : Hid (Below w.heap.size w v6) := hb
  clear hb
  go_wp2_with fail
  go_loopw [19, 20] (fun x i wr => ∃ k : Nat, k ≤ c.length ∧ i = .int .i64 k ∧ x = .int .i64 (wrap64 (pk c k)) ∧ wr = v6) (fun _ i _ => c.length - (intOf i).toNat)
  case atStart => exact ⟨0, Nat.zero_le _, rfl, by simp [pk, wrap64], rfl⟩
  case round =>
    obtain ⟨k, hk, rfl, rfl, hw⟩ := hrel
    obtain rfl := hw.symm
    clear hw
    by_cases hlt : k < c.length
    · obtain ⟨bb, off, rfl, hbb, hcell⟩ := (HI2.out _ HB.out).at hlt
      have hc := hcell k hlt
      have HS : Hid (wrap64 (wrap64 (pk c k) * nth c k) = wrap64 (pk c (k + 1))) := pk_step c k
      clear hcell
      go_wp2_with fail
      exact ⟨⟨k + 1, by omega, by go_num, by rw [HS.out], by first | rfl | trivial⟩, by simp [intOf]; omega⟩
    · obtain rfl : k = c.length := by omega
      generalize wrap64 (pk c c.length) = P at *
      have hzz : (Z != wrap64 (wrap64 (X * P) + Y)) = false := by rw [HZ.out]; simp
      by_cases g5 : f.length = e.length
      rotate_left
      · have hne : ((f.length : Int) != (e.length : Int)) = true := by rw [bne_iff_ne]; omega
        clear g5
        go_wp2_with fail
        go_ret
        exact ⟨rfl, HB.out⟩
      have hne5 : ((f.length : Int) != (e.length : Int)) = false := by rw [g5]; simp
      obtain ⟨U, hU⟩ : ∃ U, U = vaV c f := ⟨_, rfl⟩
      have HU : Hid (vaV c f = U ∧ vaV c (smL e f) = wrap64 (Y + U)) := ⟨hU.symm, by rw [va_sum HLL.out.2, HVV.out.2.1, hU]⟩
      have HL5' : Hid (f.length = e.length) := g5
      have he4 : e.length ≤ 2000 := by have := HLL.out.2; omega
      clear hU g5
      have hmk := run_make_row' (P := Try.prog) 22 3 (.int .i64 0) 8 Try.underlying22 Try.infoInt rfl .i64 .i64 e.length (by omega) (by omega)
      have HB1 : Hid (Below w.heap.size w (v6.alloc (.cells (madeCells #[.int .i64 0] e.length) 3))) := HB.out.alloc HB.out.size _
      have HR0 : Hid ((v6.alloc (.cells (madeCells #[.int .i64 0] e.length) 3)).rowIs v6.heap.size 3 e.length (fun _ => .int .i64 0)) := World.rowIs_made v6 (.int .i64 0) e.length 3
      go_wp2_with fail
      clear hmk
      go_loopw [22] (fun i wr => ∃ k : Nat, k ≤ e.length ∧ i = .int .i64 k ∧ wr.rowIs v6.heap.size 3 e.length (smR e f k) ∧ Below w.heap.size w wr) (fun i _ => e.length - (intOf i).toNat)
      case atStart => exact ⟨0, Nat.zero_le _, rfl, HR0.out.congr (fun j _ => (smR_zero e f j).symm), HB1.out⟩
      case round =>
        obtain ⟨m, hm, rfl, hrow, hB⟩ := hrel
        by_cases hlm : m < e.length
        · have hlm' : m < f.length := by rw [HL5'.out]; exact hlm
          obtain ⟨be, oe, rfl, hbe, hce⟩ := (HI4.out _ hB).at hlm
          obtain ⟨bf, of, rfl, hbf, hcf⟩ := (HI5.out _ hB).at hlm'
          have ce := hce m hlm
          have cf := hcf m hlm'
          have hct := hrow.cell hlm
          have hft := hrow.frozen m
          have HRow : Hid (wr.rowIs v6.heap.size 3 e.length (smR e f m)) := hrow
          clear hce hcf hrow
          have e0 : smR e f m m = .int .i64 0 := by simp [smR]
          rw [e0] at hct
          have HB2 : Hid (Below w.heap.size w wr) := hB
          clear e0 hB
          go_wp2_with fail
          refine anyT_begin 11 (fun w' => w'.cell? ⟨be, oe + m, none⟩ = some (.int .i64 (nth e m)) ∧ w'.cell? ⟨bf, of + m, none⟩ = some (.int .i64 (nth f m))) 13 #[false, false, false, false, false, false, false, false, false, false, false, false, false] (by kernel_rfl) rfl rfl ?_
          refine anyT_put 0 128 ?rv0 #[true, false, false, false, false, false, false, false, false, false, false, false, false] rfl rfl rfl (by kernel_rfl) (by kernel_rfl) (by kernel_rfl) (fun _ _ _ h => h) (by decide) ?ry0 (fun _ => ⟨ce, cf⟩) ?rm0
          case ry0 => first | exact Or.inl ⟨by rfl, by intro w'; go_simp; first | done | rfl⟩
          case rm0 =>
          simp only [Act.put, List.setIfInBounds_toArray, List.set_cons_zero, List.set_cons_succ]
          refine anyT_put 1 129 ?rv1 #[true, true, false, false, false, false, false, false, false, false, false, false, false] rfl rfl rfl (by kernel_rfl) (by kernel_rfl) (by kernel_rfl) (fun _ _ _ h => h) (by decide) ?ry1 (fun _ => ⟨ce, cf⟩) ?rm1
          case ry1 => first | exact Or.inl ⟨by rfl, by intro w'; go_simp; first | done | rfl⟩
          case rm1 =>
          simp only [Act.put, List.setIfInBounds_toArray, List.set_cons_zero, List.set_cons_succ]
          refine anyT_put 2 130 ?rv2 #[true, true, true, false, false, false, false, false, false, false, false, false, false] rfl rfl rfl (by kernel_rfl) (by kernel_rfl) (by kernel_rfl) (fun _ _ _ h => h) (by decide) ?ry2 (fun _ => ⟨ce, cf⟩) ?rm2
          case ry2 => first | exact Or.inl ⟨by rfl, by intro w'; go_simp; first | done | rfl⟩
          case rm2 =>
          simp only [Act.put, List.setIfInBounds_toArray, List.set_cons_zero, List.set_cons_succ]
          refine anyT_put 3 131 ?rv3 #[true, true, true, true, false, false, false, false, false, false, false, false, false] rfl rfl rfl (by kernel_rfl) (by kernel_rfl) (by kernel_rfl) (fun _ _ _ h => h) (by decide) ?ry3 (fun _ => ⟨ce, cf⟩) ?rm3
          case ry3 => first | exact Or.inl ⟨by rfl, by intro w'; go_simp; first | done | rfl⟩
          case rm3 =>
          simp only [Act.put, List.setIfInBounds_toArray, List.set_cons_zero, List.set_cons_succ]
          refine anyT_put 4 132 ?rv4 #[true, true, true, true, true, false, false, false, false, false, false, false, false] rfl rfl rfl (by kernel_rfl) (by kernel_rfl) (by kernel_rfl) (fun _ _ _ h => h) (by decide) ?ry4 (fun _ => ⟨ce, cf⟩) ?rm4
          case ry4 => first | exact Or.inl ⟨by rfl, by intro w'; go_simp; first | done | rfl⟩
          case rm4 =>
          simp only [Act.put, List.setIfInBounds_toArray, List.set_cons_zero, List.set_cons_succ]
          refine anyT_take 5 133 ?rv5 #[true, true, true, true, true, true, false, false, false, false, false, false, false] rfl rfl rfl (by kernel_rfl) (by kernel_rfl) (by kernel_rfl) (fun _ _ _ h => h) (by kernel_rfl) (by decide) (by kernel_rfl) ?ry5 (⟨ce, cf⟩) ?rm5
          case ry5 => first | exact Or.inl ⟨by rfl, by intro w' hw'; (try dsimp only at hw'); go_simp; first | done | rfl⟩
          case rm5 =>
          simp only [Act.put, List.setIfInBounds_toArray, List.set_cons_zero, List.set_cons_succ]
          refine anyT_put 6 134 ?rv6 #[true, true, true, true, true, true, true, false, false, false, false, false, false] rfl rfl rfl (by kernel_rfl) (by kernel_rfl) (by kernel_rfl) (fun _ _ _ h => h) (by decide) ?ry6 (fun _ => ⟨ce, cf⟩) ?rm6
          case ry6 => first | exact Or.inl ⟨by rfl, by intro w'; go_simp; first | done | rfl⟩
          case rm6 =>
          simp only [Act.put, List.setIfInBounds_toArray, List.set_cons_zero, List.set_cons_succ]
          refine anyT_put 7 135 ?rv7 #[true, true, true, true, true, true, true, true, false, false, false, false, false] rfl rfl rfl (by kernel_rfl) (by kernel_rfl) (by kernel_rfl) (fun _ _ _ h => h) (by decide) ?ry7 (fun _ => ⟨ce, cf⟩) ?rm7
          case ry7 => first | exact Or.inl ⟨by rfl, by intro w'; go_simp; first | done | rfl⟩
          case rm7 =>
          simp only [Act.put, List.setIfInBounds_toArray, List.set_cons_zero, List.set_cons_succ]
          refine anyT_put 8 136 ?rv8 #[true, true, true, true, true, true, true, true, true, false, false, false, false] rfl rfl rfl (by kernel_rfl) (by kernel_rfl) (by kernel_rfl) (fun _ _ _ h => h) (by decide) ?ry8 (fun _ => ⟨ce, cf⟩) ?rm8
          case ry8 => first | exact Or.inl ⟨by rfl, by intro w'; go_simp; first | done | rfl⟩
          case rm8 =>
          simp only [Act.put, List.setIfInBounds_toArray, List.set_cons_zero, List.set_cons_succ]
          refine anyT_take 9 137 ?rv9 #[true, true, true, true, true, true, true, true, true, true, false, false, false] rfl rfl rfl (by kernel_rfl) (by kernel_rfl) (by kernel_rfl) (fun _ _ _ h => h) (by kernel_rfl) (by decide) (by kernel_rfl) ?ry9 (⟨ce, cf⟩) ?rm9
          case ry9 => first | exact Or.inl ⟨by rfl, by intro w' hw'; (try dsimp only at hw'); go_simp; first | done | rfl⟩
          case rm9 =>
          simp only [Act.put, List.setIfInBounds_toArray, List.set_cons_zero, List.set_cons_succ]
          refine anyT_put 10 138 ?rv10 #[true, true, true, true, true, true, true, true, true, true, true, false, false] rfl rfl rfl (by kernel_rfl) (by kernel_rfl) (by kernel_rfl) (fun _ _ _ h => h) (by decide) ?ry10 (fun _ => ⟨ce, cf⟩) ?rm10
          case ry10 => first | exact Or.inl ⟨by rfl, by intro w'; go_simp; first | done | rfl⟩
          case rm10 =>
          simp only [Act.put, List.setIfInBounds_toArray, List.set_cons_zero, List.set_cons_succ]
          refine anyT_one 11 #[true, true, true, true, true, true, true, true, true, true, true, true, false] (by kernel_rfl) rfl rfl (fun K hK => ?_)
          go_simp
          refine hK.out _ _ (fun h => absurd h (by decide)) ?_
          clear hK K
          refine anyT_one 12 #[true, true, true, true, true, true, true, true, true, true, true, true, true] (by kernel_rfl) rfl rfl (fun K hK => ?_)
          go_simp
          refine hK.out _ _ (fun h => absurd h (by decide)) ?_
          clear hK K
          refine anyT_done (by kernel_rfl) ?_
          go_wp2_with fail
          exact ⟨⟨m + 1, by omega, by go_num, smR_next HRow.out, bel_drewN (HB2.out.setCell (p := ⟨v6.heap.size, m, none⟩) HB.out.size _) 1⟩, by simp [intOf]; omega⟩
        · have HS : Hid (NewC v6.heap.size wr (some ⟨v6.heap.size, 0, none⟩) (smL e f) e.length) := smR_all (by omega) hrow (Nat.le_refl _)
          have HSl : Hid ((smL e f).length = e.length) := smL_length e f
          obtain rfl : m = e.length := by omega
          clear hrow
          generalize smL e f = S at *
          go_wp2_with fail
          refine (va_ok a2 c2 c c.length rfl a5 c5 f f.length rfl wr (by omega) (by rw [HL5'.out, HLL.out.2]) (HI2.out _ hB) (HI5.out _ hB) U HV HU.out.1).mono ?_
          rintro r v7 ⟨rfl, hB2⟩
          have HS2 : Hid (IsInts v7.heap.size v7 (some ⟨v6.heap.size, 0, none⟩) S) := (HS.out.go hB2).ints.1
          replace hB := hB.trans (hB2.mono hB.size)
          clear hB2 HS
          go_wp2_with fail
          refine (va_ok a2 c2 c c.length rfl (some ⟨v6.heap.size, 0, none⟩) e.length S e.length HSl.out v7 (by omega) HLL.out.2 (HI2.out _ hB) HS2.out (wrap64 (Y + U)) HV HU.out.2).mono ?_
          rintro r v8 ⟨rfl, hB2⟩
          replace hB := hB.trans (hB2.mono hB.size)
          clear hB2 HS2
          have hee : (wrap64 (Y + U) == wrap64 (Y + U)) = true := by simp
          go_wp2_with fail
          go_ret
          exact ⟨rfl, hB⟩
end Go.Proofs.Ytigichhcoflaiaa
