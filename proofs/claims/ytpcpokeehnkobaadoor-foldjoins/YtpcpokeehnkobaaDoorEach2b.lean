/-
  The functions that each.Two makes: one of two cells, one of a place; and what is asked at a place.
-/
import Derived.Test.YtpcpokeehnkobaaDoorEach2a
namespace Go.Proofs.YtpcpokeehnkobaaDoor
open Go.RowKit
set_option linter.unusedVariables false

/-- A block that holds no function value. -/
def Apt (o : Obj) : Prop := ∀ (u : Value) (t : TypeId), o = .cells #[u] t (0, 0) → t ≠ 72 ∧ t ≠ 74
/-- A function value that tells of two cells. -/
def PairF (w : World) (v : Value) (f : Int) (t : Bool) : Prop := ∃ k b o, v = .func (.func k) #[] #[.pointer (some ⟨b, 0, none⟩)] ∧ (∀ args w, (callFunc k args).run Tryd.prog w = .ok (.enter k args) w) ∧ Apt o ∧ w.heap[b]? = some o ∧
  ∀ (x y : Int), In64 x → In64 y → ∀ w' : World, w'.heap[b]? = some o → Calls Tryd.prog k #[.int .i64 x, .int .i64 y, .pointer (some ⟨b, 0, none⟩)] w' fun e w'' => e = .returned (.tuple #[.int .i64 (tcV f t x y), errV (tcE f t x y)]) ∧ Below w'.heap.size w' w''
/-- A function value that tells the cell at a place; below B the world is as w0 was. -/
def GetF (B : Nat) (w0 w : World) (v : Value) (n : Nat) (g : Nat → Int) : Prop := ∃ k b o, v = .func (.func k) #[] #[.pointer (some ⟨b, 0, none⟩)] ∧ (∀ args w, (callFunc k args).run Tryd.prog w = .ok (.enter k args) w) ∧ Apt o ∧ w.heap[b]? = some o ∧
  ∀ i, i < n → ∀ w' : World, w'.heap[b]? = some o → Below B w0 w' → Calls Tryd.prog k #[.int .i64 (i : Nat), .pointer (some ⟨b, 0, none⟩)] w' fun e w'' => e = .returned (.int .i64 (g i)) ∧ Below w'.heap.size w' w''
section
variable {w w' w0 : World} {v : Value} {f : Int} {t : Bool} {n B : Nat} {g : Nat → Int}
theorem PairF.go (h : PairF w v f t) (hB : Below w.heap.size w w') : PairF w' v f t := by
  obtain ⟨k, b, o, e, h1, ha, hb, h2⟩ := h
  exact ⟨k, b, o, e, h1, ha, blk_to hb hB, h2⟩
theorem GetF.go (h : GetF B w0 w v n g) (hB : Below w.heap.size w w') : GetF B w0 w' v n g := by
  obtain ⟨k, b, o, e, h1, ha, hb, h2⟩ := h
  exact ⟨k, b, o, e, h1, ha, blk_to hb hB, h2⟩
theorem Apt.ne {o : Obj} (ha : Apt o) {b b' : Nat} {x : Value} {t : TypeId} (hb : w.heap[b]? = some o) (h : w.heap[b']? = some (.cells #[x] t (0, 0))) (ht : t = 72 ∨ t = 74) : b ≠ b' := by
  intro e
  subst e
  have := ha x t (Option.some.inj (hb.symm.trans h))
  rcases ht with e | e
  · exact this.1 e
  · exact this.2 e
theorem PairF.set (h : PairF w v f t) {b' : Nat} {x y : Value} {t' : TypeId} (hb' : w.heap[b']? = some (.cells #[x] t' (0, 0))) (ht : t' = 72 ∨ t' = 74) : PairF (w.setCell ⟨b', 0, none⟩ y) v f t := by
  obtain ⟨k, b, o, e, h1, ha, hb, h2⟩ := h
  exact ⟨k, b, o, e, h1, ha, (Below.heap_setCell w ⟨b', 0, none⟩ y b (ha.ne hb hb' ht)).trans hb, h2⟩
theorem GetF.set (h : GetF B w0 w v n g) {b' : Nat} {x y : Value} {t' : TypeId} (hb' : w.heap[b']? = some (.cells #[x] t' (0, 0))) (ht : t' = 72 ∨ t' = 74) : GetF B w0 (w.setCell ⟨b', 0, none⟩ y) v n g := by
  obtain ⟨k, b, o, e, h1, ha, hb, h2⟩ := h
  exact ⟨k, b, o, e, h1, ha, (Below.heap_setCell w ⟨b', 0, none⟩ y b (ha.ne hb hb' ht)).trans hb, h2⟩
end
theorem apt_fn (v : Value) : Apt (.cells #[v] 22 (0, 0)) := by
  intro u t h
  injection h with h1 h2 h3
  subst h2
  exact ⟨by decide, by decide⟩
theorem apt_arr (x y z : Value) : Apt (.cells (cellsA x y z) 25 (0, 0)) := by
  intro u t h
  injection h with h1 h2 h3
  subst h2
  exact ⟨by decide, by decide⟩
set_option maxHeartbeats 1000000 in
theorem pair1_any (f : Int) (hf : f = 8 ∨ f = 9) (x y : Int) (b : Nat) (w : World) (hc : w.cell? ⟨b, 0, none⟩ = some (.int .i64 f)) :
    Calls Tryd.prog 69 #[.int .i64 x, .int .i64 y, .pointer (some ⟨b, 0, none⟩)] w fun e w' => e = .returned (.tuple #[.int .i64 (tcV f false x y), errV (tcE f false x y)]) ∧ Below w.heap.size w w' := by
  have HV : Hid (twoV f 0 1 = tcV f false x y ∧ twoE f 0 1 = tcE f false x y) := by
    unfold tcV tcE
    rw [if_neg (by decide), if_neg (by decide)]
    rcases hf with rfl | rfl <;> exact ⟨by decide, by decide⟩
  clear hf
  go_enter Tryd.func69, Tryd.ntmps69
  go_wp2_with fail
  refine (two_any f 0 1 (by unfold In64; decide) (by unfold In64; decide) w).mono ?_
  rintro e w1 ⟨rfl, hb⟩
  go_wp2_with fail
  go_ret2
  exact ⟨ret2 HV.out.1 (by rw [HV.out.2]; rfl), hb⟩
set_option maxHeartbeats 1000000 in
theorem pair2_any (f : Int) (x y : Int) (hx : In64 x) (hy : In64 y) (b : Nat) (w : World) (hc : w.cell? ⟨b, 0, none⟩ = some (.int .i64 f)) :
    Calls Tryd.prog 70 #[.int .i64 x, .int .i64 y, .pointer (some ⟨b, 0, none⟩)] w fun e w' => e = .returned (.tuple #[.int .i64 (tcV f true x y), errV (tcE f true x y)]) ∧ Below w.heap.size w w' := by
  have HX : Hid (In64 x ∧ In64 y) := ⟨hx, hy⟩
  clear hx hy
  go_enter Tryd.func70, Tryd.ntmps70
  go_wp2_with fail
  refine (two_any f x y HX.out.1 HX.out.2 w).mono ?_
  rintro e w1 ⟨rfl, hb⟩
  go_wp2_with fail
  go_ret2
  exact ⟨rfl, hb⟩
set_option maxRecDepth 100000 in
set_option maxHeartbeats 1000000 in
theorem pairing_any (f : Int) (c c' : Bool) (hf : c ≠ c' → f = 8 ∨ f = 9) (w : World) :
    Calls Tryd.prog 48 #[.int .i64 f, .bool c, .bool c'] w fun e w' => ∃ v, e = .returned v ∧ PairF w' v f (c == c') ∧ Below w.heap.size w w' := by
  have HB0 : Hid (Below w.heap.size w (w.alloc (.cells #[.int .i64 f] 22))) := (Below.refl _ w).alloc (Nat.le_refl _) _
  have B0 : Hid ((w.alloc (.cells #[.int .i64 f] 22)).heap[w.heap.size]? = some (.cells #[.int .i64 f] 22 (0, 0))) := (MapKept.heap_alloc w _).1
  cases c <;> cases c'
  case' false.false => clear hf
  case' true.true => clear hf
  case' false.true => have HF : Hid (f = 8 ∨ f = 9) := hf (by decide)
  case' true.false => have HF : Hid (f = 8 ∨ f = 9) := hf (by decide)
  case' false.true => clear hf
  case' true.false => clear hf
  all_goals
    go_enter Tryd.func48, Tryd.ntmps48
    go_wp2_with fail
    go_ret
  all_goals first
    | exact ⟨.func (.func 70) #[] #[.pointer (some ⟨w.heap.size, 0, none⟩)], rfl, ⟨_, _, _, rfl, enters_of Tryd.func70 (by kernel_rfl) rfl, apt_fn _, B0.out, fun x y hx hy w' hB => pair2_any f x y hx hy _ w' (cell_of_one hB)⟩, HB0.out⟩
    | exact ⟨.func (.func 69) #[] #[.pointer (some ⟨w.heap.size, 0, none⟩)], rfl, ⟨_, _, _, rfl, enters_of Tryd.func69 (by kernel_rfl) rfl, apt_fn _, B0.out, fun x y hx hy w' hB => pair1_any f HF.out x y _ w' (cell_of_one hB)⟩, HB0.out⟩
set_option maxHeartbeats 1000000 in
theorem cells1_any (i : Nat) (b : Nat) (da : Option Addr) (dc : Nat) (dz : List Int) (h0 : 0 < dz.length) (m : Nat) (w : World) (hc : w.cell? ⟨b, 2, none⟩ = some (.slice da dz.length dc)) (hd : IsInts m w da dz) :
    Calls Tryd.prog 71 #[.int .i64 (i : Nat), .pointer (some ⟨b, 0, none⟩)] w fun e w' => e = .returned (.int .i64 (nth dz 0)) ∧ Below w.heap.size w w' := by
  obtain ⟨b', off, rfl, hb, hcell⟩ := hd.at h0
  have hx := hcell 0 h0
  clear hcell hd
  rw [Nat.add_zero] at hx
  go_enter Tryd.func71, Tryd.ntmps71
  go_wp2_with fail
  go_ret
  exact ⟨rfl, Below.refl _ _⟩
set_option maxHeartbeats 1000000 in
theorem cells2_any (i : Nat) (b : Nat) (da : Option Addr) (dc : Nat) (dz : List Int) (h0 : i < dz.length) (m : Nat) (w : World) (hc : w.cell? ⟨b, 2, none⟩ = some (.slice da dz.length dc)) (hd : IsInts m w da dz) :
    Calls Tryd.prog 72 #[.int .i64 (i : Nat), .pointer (some ⟨b, 0, none⟩)] w fun e w' => e = .returned (.int .i64 (nth dz i)) ∧ Below w.heap.size w w' := by
  obtain ⟨b', off, rfl, hb, hcell⟩ := hd.at h0
  have hx := hcell i h0
  clear hcell hd
  go_enter Tryd.func72, Tryd.ntmps72
  go_wp2_with fail
  go_ret
  exact ⟨rfl, Below.refl _ _⟩
/-- The cell that stands at a place. -/
def cAt (sz dz : List Int) (i : Nat) : Int := if sz.length = 0 then nth dz 0 else nth dz i
set_option maxRecDepth 100000 in
set_option maxHeartbeats 1000000 in
theorem cellsf_any (c : Bool) (sa : Option Addr) (sc : Nat) (sz : List Int) (da : Option Addr) (dc : Nat) (dz : List Int) (n : Nat) (h0 : sz.length = 0 → 0 < dz.length) (hn : sz.length ≠ 0 → n ≤ dz.length) (B : Nat) (w0 w : World) (hd : IsInts B w0 da dz) :
    Calls Tryd.prog 49 #[.agg #[.bool c, .slice sa sz.length sc, .slice da dz.length dc]] w fun e w' => ∃ v, e = .returned v ∧ GetF B w0 w' v n (cAt sz dz) ∧ Below w.heap.size w w' := by
  have HB0 : Hid (Below w.heap.size w (w.alloc (.cells #[.bool c, .slice sa sz.length sc, .slice da dz.length dc] 25))) := (Below.refl _ w).alloc (Nat.le_refl _) _
  have P0 : Hid (Abx (w.alloc (.cells #[.bool c, .slice sa sz.length sc, .slice da dz.length dc] 25)) w.heap.size (.bool c) (.slice sa sz.length sc) (.slice da dz.length dc)) := Abx.new w _ _ _
  have HD : Hid (IsInts B w0 da dz) := hd
  clear hd
  by_cases h : sz.length = 0
  · have S0 : Hid (sgl sz = true ∧ sz.length = 0 ∧ 0 < dz.length) := ⟨sgl_t h, h, h0 h⟩
    clear h h0 hn
    go_enter Tryd.func49, Tryd.ntmps49
    go_wp2_with fail
    refine (single_any c sa sc sz (.slice da dz.length dc) _).mono ?_
    rintro e w1 ⟨rfl, hb⟩
    rw [S0.out.1]
    have P1 : Hid (Abx w1 w.heap.size (.bool c) (.slice sa sz.length sc) (.slice da dz.length dc)) := P0.out.go hb
    have HB1 : Hid (Below w.heap.size w w1) := HB0.out.trans (hb.mono HB0.out.size)
    clear hb
    go_wp2_with fail
    go_ret
    refine ⟨.func (.func 71) #[] #[.pointer (some ⟨w.heap.size, 0, none⟩)], rfl, ⟨_, _, _, rfl, enters_of Tryd.func71 (by kernel_rfl) rfl, apt_arr _ _ _, P1.out, fun i hi w' hA hB => ?_⟩, HB1.out⟩
    unfold cAt
    rw [if_pos S0.out.2.1]
    exact cells1_any i _ da dc dz S0.out.2.2 B w' (Abx.c2 (show Abx w' w.heap.size _ _ _ from hA)) (HD.out.below hB)
  · have S0 : Hid (sgl sz = false ∧ sz.length ≠ 0 ∧ n ≤ dz.length) := ⟨sgl_f h, h, hn h⟩
    clear h h0 hn
    go_enter Tryd.func49, Tryd.ntmps49
    go_wp2_with fail
    refine (single_any c sa sc sz (.slice da dz.length dc) _).mono ?_
    rintro e w1 ⟨rfl, hb⟩
    rw [S0.out.1]
    have P1 : Hid (Abx w1 w.heap.size (.bool c) (.slice sa sz.length sc) (.slice da dz.length dc)) := P0.out.go hb
    have HB1 : Hid (Below w.heap.size w w1) := HB0.out.trans (hb.mono HB0.out.size)
    clear hb
    go_wp2_with fail
    go_ret
    refine ⟨.func (.func 72) #[] #[.pointer (some ⟨w.heap.size, 0, none⟩)], rfl, ⟨_, _, _, rfl, enters_of Tryd.func72 (by kernel_rfl) rfl, apt_arr _ _ _, P1.out, fun i hi w' hA hB => ?_⟩, HB1.out⟩
    unfold cAt
    rw [if_neg S0.out.2.1]
    exact cells2_any i _ da dc dz (Nat.lt_of_lt_of_le hi S0.out.2.2) B w' (Abx.c2 (show Abx w' w.heap.size _ _ _ from hA)) (HD.out.below hB)
set_option maxRecDepth 100000 in
set_option maxHeartbeats 2000000 in
theorem two1_any (f : Int) (t : Bool) (n : Nat) (g g' : Nat → Int) (b1 b2 b3 : Nat) (v1 v2 v3 : Value) (i : Nat) (hi : i < n) (w : World) (t1 t2 t3 : TypeId) (h1 : w.heap[b1]? = some (.cells #[v1] t1 (0, 0))) (h2 : w.heap[b2]? = some (.cells #[v2] t2 (0, 0))) (h3 : w.heap[b3]? = some (.cells #[v3] t3 (0, 0)))
    (B : Nat) (w0 : World) (hB0 : Below B w0 w) (hB : B ≤ w.heap.size) (F1 : PairF w v1 f t) (F2 : GetF B w0 w v2 n g) (F3 : GetF B w0 w v3 n g') (T : In64 (g i)) (T' : In64 (g' i)) :
    Calls Tryd.prog 52 #[.int .i64 (i : Nat), .pointer (some ⟨b1, 0, none⟩), .pointer (some ⟨b2, 0, none⟩), .pointer (some ⟨b3, 0, none⟩)] w (AskP (fun i => tcV f t (g i) (g' i)) (fun i => tcE f t (g i) (g' i)) i w) := by
  obtain ⟨k1, p1, o1, rfl, e1, _, x1, H1⟩ := F1
  obtain ⟨k2, p2, o2, rfl, e2, _, x2, H2⟩ := F2
  obtain ⟨k3, p3, o3, rfl, e3, _, x3, H3⟩ := F3
  have c1 := cell_of_one h1
  have c2 := cell_of_one h2
  have c3 := cell_of_one h3
  have HH : Hid ((w.heap[b1]? = _) ∧ (w.heap[b2]? = _) ∧ (w.heap[b3]? = _)) := ⟨h1, h2, h3⟩
  have K1 : Hid (_) := H1
  have K2 : Hid (_) := H2
  have K3 : Hid (_) := H3
  have HT : Hid (In64 (g i) ∧ In64 (g' i)) := ⟨T, T'⟩
  have XX : Hid ((w.heap[p1]? = _) ∧ (w.heap[p2]? = _) ∧ (w.heap[p3]? = _)) := ⟨x1, x2, x3⟩
  have HB : Hid (Below B w0 w ∧ B ≤ w.heap.size) := ⟨hB0, hB⟩
  clear h1 h2 h3 H1 H2 H3 T T' x1 x2 x3 hB0 hB
  go_enter Tryd.func52, Tryd.ntmps52
  go_wp2_with fail
  refine anyT_begin 10 (fun w' => w'.cell? ⟨b1, 0, none⟩ = some (.func (.func k1) #[] #[.pointer (some ⟨p1, 0, none⟩)]) ∧ w'.cell? ⟨b2, 0, none⟩ = some (.func (.func k2) #[] #[.pointer (some ⟨p2, 0, none⟩)]) ∧ w'.cell? ⟨b3, 0, none⟩ = some (.func (.func k3) #[] #[.pointer (some ⟨p3, 0, none⟩)])) 12 #[false, false, false, false, false, false, false, false, false, false, false, false] (by kernel_rfl) rfl rfl ?_
  refine anyT_take 0 7 ?rv0 #[true, false, false, false, false, false, false, false, false, false, false, false] rfl rfl rfl (by kernel_rfl) (by kernel_rfl) (by kernel_rfl) (fun _ _ _ h => h) (by kernel_rfl) (by decide) (by kernel_rfl) ?ry0 (⟨c1, c2, c3⟩) ?rm0
  case ry0 => first | exact Or.inl ⟨by rfl, by intro w' hw'; (try dsimp only at hw'); go_simp; first | done | rfl⟩
  case rm0 =>
  simp only [Act.put, List.setIfInBounds_toArray, List.set_cons_zero, List.set_cons_succ]
  refine anyT_take 1 8 ?rv1 #[true, true, false, false, false, false, false, false, false, false, false, false] rfl rfl rfl (by kernel_rfl) (by kernel_rfl) (by kernel_rfl) (fun _ _ _ h => h) (by kernel_rfl) (by decide) (by kernel_rfl) ?ry1 (⟨c1, c2, c3⟩) ?rm1
  case ry1 => first | exact Or.inl ⟨by rfl, by intro w' hw'; (try dsimp only at hw'); go_simp; first | done | rfl⟩
  case rm1 =>
  simp only [Act.put, List.setIfInBounds_toArray, List.set_cons_zero, List.set_cons_succ]
  refine anyT_put 2 9 ?rv2 #[true, true, true, false, false, false, false, false, false, false, false, false] rfl rfl rfl (by kernel_rfl) (by kernel_rfl) (by kernel_rfl) (fun _ _ _ h => h) (by decide) ?ry2 (fun _ => ⟨c1, c2, c3⟩) ?rm2
  case ry2 => first | exact Or.inl ⟨by rfl, by intro w'; go_simp; first | done | rfl⟩
  case rm2 =>
  simp only [Act.put, List.setIfInBounds_toArray, List.set_cons_zero, List.set_cons_succ]
  refine anyT_take 4 11 ?rv3 #[true, true, true, false, true, false, false, false, false, false, false, false] rfl rfl rfl (by kernel_rfl) (by kernel_rfl) (by kernel_rfl) (fun _ _ _ h => h) (by kernel_rfl) (by decide) (by kernel_rfl) ?ry3 (⟨c1, c2, c3⟩) ?rm3
  case ry3 => first | exact Or.inl ⟨by rfl, by intro w' hw'; (try dsimp only at hw'); go_simp; first | done | rfl⟩
  case rm3 =>
  simp only [Act.put, List.setIfInBounds_toArray, List.set_cons_zero, List.set_cons_succ]
  refine anyT_put 5 12 ?rv4 #[true, true, true, false, true, true, false, false, false, false, false, false] rfl rfl rfl (by kernel_rfl) (by kernel_rfl) (by kernel_rfl) (fun _ _ _ h => h) (by decide) ?ry4 (fun _ => ⟨c1, c2, c3⟩) ?rm4
  case ry4 => first | exact Or.inl ⟨by rfl, by intro w'; go_simp; first | done | rfl⟩
  case rm4 =>
  simp only [Act.put, List.setIfInBounds_toArray, List.set_cons_zero, List.set_cons_succ]
  refine anyT_one 3 #[true, true, true, true, true, true, false, false, false, false, false, false] (by kernel_rfl) rfl rfl (fun K hK => ?_)
  go_simp
  go_wp2_with fail
  refine (K2.out i hi w.drew XX.out.2.1 HB.out.1.drew).mono ?_
  rintro e w2 ⟨rfl, hB2⟩
  have HB2 : Hid (Below w.heap.size w w2) := (Below.refl _ w).drew.trans hB2
  have D1 := cell_of_one (blk_to HH.out.1 HB2.out)
  have D2 := cell_of_one (blk_to HH.out.2.1 HB2.out)
  have D3 := cell_of_one (blk_to HH.out.2.2 HB2.out)
  refine hK.out _ _ (fun _ => ⟨D1, D2, D3⟩) ?_
  clear hK K
  refine anyT_one 6 #[true, true, true, true, true, true, true, false, false, false, false, false] (by kernel_rfl) rfl rfl (fun K hK => ?_)
  go_simp
  go_wp2_with fail
  refine (K3.out i hi w2 (blk_to XX.out.2.2 HB2.out) (HB.out.1.trans (HB2.out.mono HB.out.2))).mono ?_
  rintro e w3 ⟨rfl, hB3⟩
  have HB3 : Hid (Below w.heap.size w w3) := HB2.out.trans (hB3.mono HB2.out.size)
  have E1 := cell_of_one (blk_to HH.out.1 HB3.out)
  have E2 := cell_of_one (blk_to HH.out.2.1 HB3.out)
  have E3 := cell_of_one (blk_to HH.out.2.2 HB3.out)
  refine hK.out _ _ (fun _ => ⟨E1, E2, E3⟩) ?_
  clear hK K
  refine anyT_one 7 #[true, true, true, true, true, true, true, true, false, false, false, false] (by kernel_rfl) rfl rfl (fun K hK => ?_)
  go_simp
  go_wp2_with fail
  refine (K1.out (g i) (g' i) HT.out.1 HT.out.2 w3 (blk_to XX.out.1 HB3.out)).mono ?_
  rintro e w4 ⟨rfl, hB4⟩
  have HB4 : Hid (Below w.heap.size w w4) := HB3.out.trans (hB4.mono HB3.out.size)
  have G1 := cell_of_one (blk_to HH.out.1 HB4.out)
  have G2 := cell_of_one (blk_to HH.out.2.1 HB4.out)
  have G3 := cell_of_one (blk_to HH.out.2.2 HB4.out)
  refine hK.out _ _ (fun _ => ⟨G1, G2, G3⟩) ?_
  clear hK K
  refine anyT_put 8 15 ?rv8 #[true, true, true, true, true, true, true, true, true, false, false, false] rfl rfl rfl (by kernel_rfl) (by kernel_rfl) (by kernel_rfl) (fun _ _ _ h => h) (by decide) ?ry8 (fun _ => ⟨G1, G2, G3⟩) ?rm8
  case ry8 => first | exact Or.inl ⟨by rfl, by intro w'; go_simp; first | done | rfl⟩
  case rm8 =>
  simp only [Act.put, List.setIfInBounds_toArray, List.set_cons_zero, List.set_cons_succ]
  refine anyT_put 9 16 ?rv9 #[true, true, true, true, true, true, true, true, true, true, false, false] rfl rfl rfl (by kernel_rfl) (by kernel_rfl) (by kernel_rfl) (fun _ _ _ h => h) (by decide) ?ry9 (fun _ => ⟨G1, G2, G3⟩) ?rm9
  case ry9 => first | exact Or.inl ⟨by rfl, by intro w'; go_simp; first | done | rfl⟩
  case rm9 =>
  simp only [Act.put, List.setIfInBounds_toArray, List.set_cons_zero, List.set_cons_succ]
  refine anyT_one 10 #[true, true, true, true, true, true, true, true, true, true, true, false] (by kernel_rfl) rfl rfl (fun K hK => ?_)
  go_simp
  refine hK.out _ _ (fun h => absurd h (by decide)) ?_
  clear hK K
  refine anyT_one 11 #[true, true, true, true, true, true, true, true, true, true, true, true] (by kernel_rfl) rfl rfl (fun K hK => ?_)
  go_simp
  refine hK.out _ _ (fun h => absurd h (by decide)) ?_
  clear hK K
  refine anyT_done (by kernel_rfl) ?_
  go_wp2_with fail
  go_ret2
  exact ⟨rfl, HB4.out⟩
end Go.Proofs.YtpcpokeehnkobaaDoor
