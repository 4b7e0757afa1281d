/-
  The functions that each.Two makes: one of two cells, one of a place; and what is asked at a place.
-/
import Derived.Test.YtcpmendkocnlhaaEach2a
namespace Go.Proofs.Ytcpmendkocnlhaa
open Go.RowKit
set_option linter.unusedVariables false

/-- A block that holds no function value. -/
def Apt (o : Obj) : Prop := ∀ (u : Value) (t : TypeId), o = .cells #[u] t (0, 0) → t ≠ 63
/-- A function value that tells the cell at a place; below B the world is as w0 was. -/
def GetF (B : Nat) (w0 w : World) (v : Value) (n : Nat) (g : Nat → Int) : Prop := ∃ k b o, v = .func (.func k) #[] #[.pointer (some ⟨b, 0, none⟩)] ∧ (∀ args w, (callFunc k args).run Try.prog w = .ok (.enter k args) w) ∧ Apt o ∧ w.heap[b]? = some o ∧
  ∀ i, i < n → ∀ w' : World, w'.heap[b]? = some o → Below B w0 w' → Calls Try.prog k #[.int .i64 (i : Nat), .pointer (some ⟨b, 0, none⟩)] w' fun e w'' => e = .returned (.int .i64 (g i)) ∧ Below w'.heap.size w' w''
section
variable {w w' w0 : World} {v : Value} {n B : Nat} {g : Nat → Int}
theorem GetF.go (h : GetF B w0 w v n g) (hB : Below w.heap.size w w') : GetF B w0 w' v n g := by
  obtain ⟨k, b, o, e, h1, ha, hb, h2⟩ := h
  exact ⟨k, b, o, e, h1, ha, blk_to hb hB, h2⟩
theorem Apt.ne {o : Obj} (ha : Apt o) {b b' : Nat} {x : Value} {t : TypeId} (hb : w.heap[b]? = some o) (h : w.heap[b']? = some (.cells #[x] t (0, 0))) (ht : t = 63) : b ≠ b' := by
  intro e
  subst e
  exact ha x t (Option.some.inj (hb.symm.trans h)) ht
theorem GetF.set (h : GetF B w0 w v n g) {b' : Nat} {x y : Value} {t' : TypeId} (hb' : w.heap[b']? = some (.cells #[x] t' (0, 0))) (ht : t' = 63) : GetF B w0 (w.setCell ⟨b', 0, none⟩ y) v n g := by
  obtain ⟨k, b, o, e, h1, ha, hb, h2⟩ := h
  exact ⟨k, b, o, e, h1, ha, (Below.heap_setCell w ⟨b', 0, none⟩ y b (ha.ne hb hb' ht)).trans hb, h2⟩
end
theorem apt_arr (x y z : Value) : Apt (.cells (cellsA x y z) 25 (0, 0)) := by
  intro u t h
  injection h with h1 h2 h3
  subst h2
  decide
set_option maxHeartbeats 1000000 in
theorem cells1_any (i : Nat) (b : Nat) (da : Option Addr) (dc : Nat) (dz : List Int) (h0 : 0 < dz.length) (m : Nat) (w : World) (hc : w.cell? ⟨b, 2, none⟩ = some (.slice da dz.length dc)) (hd : IsInts m w da dz) :
    Calls Try.prog 58 #[.int .i64 (i : Nat), .pointer (some ⟨b, 0, none⟩)] w fun e w' => e = .returned (.int .i64 (nth dz 0)) ∧ Below w.heap.size w w' := by
  obtain ⟨b', off, rfl, hb, hcell⟩ := hd.at h0
  have hx := hcell 0 h0
  clear hcell hd
  rw [Nat.add_zero] at hx
  go_enter Try.func58, Try.ntmps58
  go_wp2_with fail
  go_ret
  exact ⟨rfl, Below.refl _ _⟩
set_option maxHeartbeats 1000000 in
theorem cells2_any (i : Nat) (b : Nat) (da : Option Addr) (dc : Nat) (dz : List Int) (h0 : i < dz.length) (m : Nat) (w : World) (hc : w.cell? ⟨b, 2, none⟩ = some (.slice da dz.length dc)) (hd : IsInts m w da dz) :
    Calls Try.prog 59 #[.int .i64 (i : Nat), .pointer (some ⟨b, 0, none⟩)] w fun e w' => e = .returned (.int .i64 (nth dz i)) ∧ Below w.heap.size w w' := by
  obtain ⟨b', off, rfl, hb, hcell⟩ := hd.at h0
  have hx := hcell i h0
  clear hcell hd
  go_enter Try.func59, Try.ntmps59
  go_wp2_with fail
  go_ret
  exact ⟨rfl, Below.refl _ _⟩
/-- The cell that stands at a place. -/
def cAt (sz dz : List Int) (i : Nat) : Int := if sz.length = 0 then nth dz 0 else nth dz i
set_option maxRecDepth 100000 in
set_option maxHeartbeats 1000000 in
theorem cellsf_any (c : Bool) (sa : Option Addr) (sc : Nat) (sz : List Int) (da : Option Addr) (dc : Nat) (dz : List Int) (n : Nat) (h0 : sz.length = 0 → 0 < dz.length) (hn : sz.length ≠ 0 → n ≤ dz.length) (B : Nat) (w0 w : World) (hd : IsInts B w0 da dz) :
    Calls Try.prog 34 #[.agg #[.bool c, .slice sa sz.length sc, .slice da dz.length dc]] w fun e w' => ∃ v, e = .returned v ∧ GetF B w0 w' v n (cAt sz dz) ∧ Below w.heap.size w w' := by
  have HB0 : Hid (Below w.heap.size w (w.alloc (.cells #[.bool c, .slice sa sz.length sc, .slice da dz.length dc] 25))) := (Below.refl _ w).alloc (Nat.le_refl _) _
  have P0 : Hid (Abx (w.alloc (.cells #[.bool c, .slice sa sz.length sc, .slice da dz.length dc] 25)) w.heap.size (.bool c) (.slice sa sz.length sc) (.slice da dz.length dc)) := Abx.new w _ _ _
  have HD : Hid (IsInts B w0 da dz) := hd
  clear hd
  by_cases h : sz.length = 0
  · have S0 : Hid (sgl sz = true ∧ sz.length = 0 ∧ 0 < dz.length) := ⟨sgl_t h, h, h0 h⟩
    clear h h0 hn
    go_enter Try.func34, Try.ntmps34
    go_wp2_with fail
    refine (single_any c sa sc sz (.slice da dz.length dc) _).mono ?_
    rintro e w1 ⟨rfl, hb⟩
    rw [S0.out.1]
    have P1 : Hid (Abx w1 w.heap.size (.bool c) (.slice sa sz.length sc) (.slice da dz.length dc)) := P0.out.go hb
    have HB1 : Hid (Below w.heap.size w w1) := HB0.out.trans (hb.mono HB0.out.size)
    clear hb
    go_wp2_with fail
    go_ret
    refine ⟨.func (.func 58) #[] #[.pointer (some ⟨w.heap.size, 0, none⟩)], rfl, ⟨_, _, _, rfl, enters_of Try.func58 (by kernel_rfl) rfl, apt_arr _ _ _, P1.out, fun i hi w' hA hB => ?_⟩, HB1.out⟩
    unfold cAt
    rw [if_pos S0.out.2.1]
    exact cells1_any i _ da dc dz S0.out.2.2 B w' (Abx.c2 (show Abx w' w.heap.size _ _ _ from hA)) (HD.out.below hB)
  · have S0 : Hid (sgl sz = false ∧ sz.length ≠ 0 ∧ n ≤ dz.length) := ⟨sgl_f h, h, hn h⟩
    clear h h0 hn
    go_enter Try.func34, Try.ntmps34
    go_wp2_with fail
    refine (single_any c sa sc sz (.slice da dz.length dc) _).mono ?_
    rintro e w1 ⟨rfl, hb⟩
    rw [S0.out.1]
    have P1 : Hid (Abx w1 w.heap.size (.bool c) (.slice sa sz.length sc) (.slice da dz.length dc)) := P0.out.go hb
    have HB1 : Hid (Below w.heap.size w w1) := HB0.out.trans (hb.mono HB0.out.size)
    clear hb
    go_wp2_with fail
    go_ret
    refine ⟨.func (.func 59) #[] #[.pointer (some ⟨w.heap.size, 0, none⟩)], rfl, ⟨_, _, _, rfl, enters_of Try.func59 (by kernel_rfl) rfl, apt_arr _ _ _, P1.out, fun i hi w' hA hB => ?_⟩, HB1.out⟩
    unfold cAt
    rw [if_neg S0.out.2.1]
    exact cells2_any i _ da dc dz (Nat.lt_of_lt_of_le hi S0.out.2.2) B w' (Abx.c2 (show Abx w' w.heap.size _ _ _ from hA)) (HD.out.below hB)
set_option maxRecDepth 100000 in
set_option maxHeartbeats 2000000 in
theorem two1_any (f : Int) (t : Bool) (n : Nat) (g g' : Nat → Int) (b1 b2 b3 : Nat) (v1 v2 v3 : Value) (i : Nat) (hi : i < n) (w : World) (t1 t2 t3 : TypeId) (h1 : w.heap[b1]? = some (.cells #[v1] t1 (0, 0))) (h2 : w.heap[b2]? = some (.cells #[v2] t2 (0, 0))) (h3 : w.heap[b3]? = some (.cells #[v3] t3 (0, 0)))
    (B : Nat) (w0 : World) (hB0 : Below B w0 w) (hB : B ≤ w.heap.size) (n1 : Nat) (F1 : PairF n1 w v1 f t) (F2 : GetF B w0 w v2 n g) (F3 : GetF B w0 w v3 n g') (T : In64 (g i)) (T' : In64 (g' i)) :
    Calls Try.prog 37 #[.int .i64 (i : Nat), .pointer (some ⟨b1, 0, none⟩), .pointer (some ⟨b2, 0, none⟩), .pointer (some ⟨b3, 0, none⟩)] w (AskP (fun i => tcV f t (g i) (g' i)) (fun i => tcE f t (g i) (g' i)) i w) := by
  obtain ⟨k1, p1, o1, _, rfl, e1, x1, H1⟩ := F1
  obtain ⟨k2, p2, o2, rfl, e2, _, x2, H2⟩ := F2
  obtain ⟨k3, p3, o3, rfl, e3, _, x3, H3⟩ := F3
  have c1 := cell_of_one h1
  have c2 := cell_of_one h2
  have c3 := cell_of_one h3
  have HH : Hid ((w.heap[b1]? = _) ∧ (w.heap[b2]? = _) ∧ (w.heap[b3]? = _)) := ⟨h1, h2, h3⟩
  have K1 : Hid (_) := H1
  have K2 : Hid (_) := H2
  have K3 : Hid (_) := H3
  have HT : Hid (In64 (g i) ∧ In64 (g' i)) := ⟨T, T'⟩
  have XX : Hid ((w.heap[p1]? = _) ∧ (w.heap[p2]? = _) ∧ (w.heap[p3]? = _)) := ⟨x1, x2, x3⟩
  have HB : Hid (Below B w0 w ∧ B ≤ w.heap.size) := ⟨hB0, hB⟩
  clear h1 h2 h3 H1 H2 H3 T T' x1 x2 x3 hB0 hB
  go_enter Try.func37, Try.ntmps37
  go_wp2_with fail
  refine anyT_begin 10 (fun w' => w'.cell? ⟨b1, 0, none⟩ = some (.func (.func k1) #[] #[.pointer (some ⟨p1, 0, none⟩)]) ∧ w'.cell? ⟨b2, 0, none⟩ = some (.func (.func k2) #[] #[.pointer (some ⟨p2, 0, none⟩)]) ∧ w'.cell? ⟨b3, 0, none⟩ = some (.func (.func k3) #[] #[.pointer (some ⟨p3, 0, none⟩)])) 12 #[false, false, false, false, false, false, false, false, false, false, false, false] (by kernel_rfl) rfl rfl ?_
  refine anyT_take 0 7 ?rv73 #[true, false, false, false, false, false, false, false, false, false, false, false] rfl rfl rfl (by kernel_rfl) (by kernel_rfl) (by kernel_rfl) (fun _ _ _ h => h) (by kernel_rfl) (by decide) (by kernel_rfl) ?ry73 (⟨c1, c2, c3⟩) ?rm73
  case ry73 => first | exact Or.inl ⟨by rfl, by intro w' hw'; (try dsimp only at hw'); go_simp; first | done | rfl⟩
  case rm73 =>
  simp only [Act.put, List.setIfInBounds_toArray, List.set_cons_zero, List.set_cons_succ]
  refine anyT_take 1 8 ?rv74 #[true, true, false, false, false, false, false, false, false, false, false, false] rfl rfl rfl (by kernel_rfl) (by kernel_rfl) (by kernel_rfl) (fun _ _ _ h => h) (by kernel_rfl) (by decide) (by kernel_rfl) ?ry74 (⟨c1, c2, c3⟩) ?rm74
  case ry74 => first | exact Or.inl ⟨by rfl, by intro w' hw'; (try dsimp only at hw'); go_simp; first | done | rfl⟩
  case rm74 =>
  simp only [Act.put, List.setIfInBounds_toArray, List.set_cons_zero, List.set_cons_succ]
  refine anyT_put 2 9 ?rv75 #[true, true, true, false, false, false, false, false, false, false, false, false] rfl rfl rfl (by kernel_rfl) (by kernel_rfl) (by kernel_rfl) (fun _ _ _ h => h) (by decide) ?ry75 (fun _ => ⟨c1, c2, c3⟩) ?rm75
  case ry75 => first | exact Or.inl ⟨by rfl, by intro w'; go_simp; first | done | rfl⟩
  case rm75 =>
  simp only [Act.put, List.setIfInBounds_toArray, List.set_cons_zero, List.set_cons_succ]
  refine anyT_take 4 11 ?rv76 #[true, true, true, false, true, false, false, false, false, false, false, false] rfl rfl rfl (by kernel_rfl) (by kernel_rfl) (by kernel_rfl) (fun _ _ _ h => h) (by kernel_rfl) (by decide) (by kernel_rfl) ?ry76 (⟨c1, c2, c3⟩) ?rm76
  case ry76 => first | exact Or.inl ⟨by rfl, by intro w' hw'; (try dsimp only at hw'); go_simp; first | done | rfl⟩
  case rm76 =>
  simp only [Act.put, List.setIfInBounds_toArray, List.set_cons_zero, List.set_cons_succ]
  refine anyT_put 5 12 ?rv77 #[true, true, true, false, true, true, false, false, false, false, false, false] rfl rfl rfl (by kernel_rfl) (by kernel_rfl) (by kernel_rfl) (fun _ _ _ h => h) (by decide) ?ry77 (fun _ => ⟨c1, c2, c3⟩) ?rm77
  case ry77 => first | exact Or.inl ⟨by rfl, by intro w'; go_simp; first | done | rfl⟩
  case rm77 =>
  simp only [Act.put, List.setIfInBounds_toArray, List.set_cons_zero, List.set_cons_succ]
  refine anyT_one 3 #[true, true, true, true, true, true, false, false, false, false, false, false] (by kernel_rfl) rfl rfl (fun K hK => ?_)
  go_simp
  go_wp2_with fail
  refine (K2.out i hi w.drew XX.out.2.1 HB.out.1.drew).mono ?_
  rintro e w2 ⟨rfl, hB2⟩
  have HB2 : Hid (Below w.heap.size w w2) := (Below.refl _ w).drew.trans hB2
  have D1 := cell_of_one (blk_to HH.out.1 HB2.out)
  have D2 := cell_of_one (blk_to HH.out.2.1 HB2.out)
  have D3 := cell_of_one (blk_to HH.out.2.2 HB2.out)
  refine hK.out _ _ (fun _ => ⟨D1, D2, D3⟩) ?_
  clear hK K
  refine anyT_one 6 #[true, true, true, true, true, true, true, false, false, false, false, false] (by kernel_rfl) rfl rfl (fun K hK => ?_)
  go_simp
  go_wp2_with fail
  refine (K3.out i hi w2 (blk_to XX.out.2.2 HB2.out) (HB.out.1.trans (HB2.out.mono HB.out.2))).mono ?_
  rintro e w3 ⟨rfl, hB3⟩
  have HB3 : Hid (Below w.heap.size w w3) := HB2.out.trans (hB3.mono HB2.out.size)
  have E1 := cell_of_one (blk_to HH.out.1 HB3.out)
  have E2 := cell_of_one (blk_to HH.out.2.1 HB3.out)
  have E3 := cell_of_one (blk_to HH.out.2.2 HB3.out)
  refine hK.out _ _ (fun _ => ⟨E1, E2, E3⟩) ?_
  clear hK K
  refine anyT_one 7 #[true, true, true, true, true, true, true, true, false, false, false, false] (by kernel_rfl) rfl rfl (fun K hK => ?_)
  go_simp
  go_wp2_with fail
  refine (K1.out (g i) (g' i) HT.out.1 HT.out.2 w3 (blk_to XX.out.1 HB3.out)).mono ?_
  rintro e w4 ⟨rfl, hB4⟩
  have HB4 : Hid (Below w.heap.size w w4) := HB3.out.trans (hB4.mono HB3.out.size)
  have G1 := cell_of_one (blk_to HH.out.1 HB4.out)
  have G2 := cell_of_one (blk_to HH.out.2.1 HB4.out)
  have G3 := cell_of_one (blk_to HH.out.2.2 HB4.out)
  refine hK.out _ _ (fun _ => ⟨G1, G2, G3⟩) ?_
  clear hK K
  refine anyT_put 8 15 ?rv81 #[true, true, true, true, true, true, true, true, true, false, false, false] rfl rfl rfl (by kernel_rfl) (by kernel_rfl) (by kernel_rfl) (fun _ _ _ h => h) (by decide) ?ry81 (fun _ => ⟨G1, G2, G3⟩) ?rm81
  case ry81 => first | exact Or.inl ⟨by rfl, by intro w'; go_simp; first | done | rfl⟩
  case rm81 =>
  simp only [Act.put, List.setIfInBounds_toArray, List.set_cons_zero, List.set_cons_succ]
  refine anyT_put 9 16 ?rv82 #[true, true, true, true, true, true, true, true, true, true, false, false] rfl rfl rfl (by kernel_rfl) (by kernel_rfl) (by kernel_rfl) (fun _ _ _ h => h) (by decide) ?ry82 (fun _ => ⟨G1, G2, G3⟩) ?rm82
  case ry82 => first | exact Or.inl ⟨by rfl, by intro w'; go_simp; first | done | rfl⟩
  case rm82 =>
  simp only [Act.put, List.setIfInBounds_toArray, List.set_cons_zero, List.set_cons_succ]
  refine anyT_one 10 #[true, true, true, true, true, true, true, true, true, true, true, false] (by kernel_rfl) rfl rfl (fun K hK => ?_)
  go_simp
  refine hK.out _ _ (fun h => absurd h (by decide)) ?_
  clear hK K
  refine anyT_one 11 #[true, true, true, true, true, true, true, true, true, true, true, true] (by kernel_rfl) rfl rfl (fun K hK => ?_)
  go_simp
  refine hK.out _ _ (fun h => absurd h (by decide)) ?_
  clear hK K
  refine anyT_done (by kernel_rfl) ?_
  go_wp2_with fail
  go_ret2
  exact ⟨rfl, HB4.out⟩
end Go.Proofs.Ytcpmendkocnlhaa
