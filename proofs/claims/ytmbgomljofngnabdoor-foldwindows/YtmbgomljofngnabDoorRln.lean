/-
  What the reference tells along an axis of a new length: Scanned, Windowed.
-/
import Derived.Test.YtmbgomljofngnabDoorRfd
namespace Go.Proofs.YtmbgomljofngnabDoor
open Go.RowKit
set_option linter.unusedVariables false

theorem coords_l (a : Option Addr) (cap : Nat) (zs : List Int) (n p : Nat) (hn : zs.length = n) (he : errOf zs = 0) (hp : (p : Int) < prod zs) (w : World) (hI : IsInts w.heap.size w a zs) :
    Calls Tryd.prog 17 #[.slice a n cap, .int .i64 (p : Int)] w fun e w' => ∃ g c, e = .returned (.slice g n c) ∧ NewInts w.heap.size w' g (cr zs p) ∧ Below w.heap.size w w' := by
  have h := coords_new a cap zs p he hp w hI
  have hl : (cr zs p).length = zs.length := insB_len (cr_fact he hp).1
  rw [hl, hn] at h
  exact h
theorem cells_l (a : Option Addr) (cap : Nat) (zs : List Int) (n q : Nat) (hn : zs.length = n) (hq : prod zs = q) (hreach : n ≤ 9223372036854775807) (he : errOf zs = 0) (n₀ : Nat) (w : World) (hI : IsInts n₀ w a zs) :
    Calls Tryd.prog 16 #[.slice a n cap] w fun e w' => e = .returned (.int .i64 (q : Nat)) ∧ w' = w := by
  subst hn
  have h := cells_any a cap zs hreach he n₀ w hI
  rw [hq] at h
  exact h
theorem ur12_no {e : Int} {S D : List Int} {w w' : World} {e' : Int} (h : e = e') (h0 : e' ≠ 0) (hB : Below w.heap.size w w') : UR e false (onl e S) (onl e D) w (.returned (.tuple #[.agg #[.bool false, .slice none 0 0, .slice none 0 0], .int .i64 e'])) w' := by
  subst h
  rw [onl_no h0, onl_no h0]
  exact ⟨none, 0, none, 0, rfl, .inl rfl, .inl rfl, hB⟩
theorem ur12_ok {e : Int} {S D : List Int} {w w' : World} {xa : Option Addr} {xc : Nat} {ya : Option Addr} {yc n m : Nat} (h : e = 0) (hn : S.length = n) (hm : D.length = m) (hX : NewInts w.heap.size w' xa S) (hY : NewInts w.heap.size w' ya D) (hB : Below w.heap.size w w') :
    UR e false (onl e S) (onl e D) w (.returned (.tuple #[.agg #[.bool false, .slice xa n xc, .slice ya m yc], .int .i64 0])) w' := by
  subst h hn hm
  exact ⟨xa, xc, ya, yc, rfl, hX, hY, hB⟩
/-- The run of a line that is folded at an index: so many from it on, or all as far as it. -/
def liG (sz dz : List Int) (x n : Nat) (t : List Int) : List Int := if n = 0 then lnL sz dz x t 0 (nth t x + 1).toNat else lnL sz dz x t (nth t x) n
def liE (f : Int) (sz dz : List Int) (x m n : Nat) : Int := if okT (sz.set x m) (fun t => fdE f (liG sz dz x n t)) = true then 0 else 6
def liD (f : Int) (sz dz : List Int) (x m n : Nat) : List Int := TA (sz.set x m) fun t => fdV f (liG sz dz x n t)
theorem l64r {l : List Int} (h : L64 l) (j : Nat) : In64 (nth l j) := by
  by_cases hj : j < l.length
  · exact h _ (nth_mem l j hj)
  · have : nth l j = 0 := by simp [nth, List.getElem?_eq_none (show l.length ≤ j by omega)]
    rw [this]; unfold In64; decide
theorem ins_back12 {sz t : List Int} {x : Nat} {m v : Int} (hx : x < sz.length) (h : insB (sz.set x m) t = true) (h0 : 0 ≤ v) (h1 : v < nth sz x) : insB sz (t.set x v) = true := by
  obtain ⟨hl, ha, _, _⟩ := (insS hx).1 h
  refine ins_mk (by rw [List.length_set]; exact hl) fun k hk => ?_
  rw [nth_set _ _ _ _ (by omega)]
  by_cases e : k = x
  · rw [if_pos e, e]; exact ⟨h0, h1⟩
  · rw [if_neg e]; exact ha k hk e
set_option maxRecDepth 100000 in
set_option maxHeartbeats 8000000 in
theorem lined_any (f : Int) (x : Nat) (sa : Option Addr) (sc : Nat) (sz : List Int) (da : Option Addr) (dc : Nat) (dz : List Int) (m n : Nat) (hf : 1 ≤ f ∧ f ≤ 16) (hfl : flawE false sz dz = 0) (hx : x < sz.length) (hm : (m : Int) ≤ nth sz x) (hmn : n = 0 ∨ (m : Int) + n ≤ nth sz x + 1) (T : ∀ j, In64 (nth dz j)) (w : World) (hs : IsInts w.heap.size w sa sz) (hd : IsInts w.heap.size w da dz) :
    Calls Tryd.prog 27 #[.int .i64 f, .int .i64 (x : Nat), .agg #[.bool false, .slice sa sz.length sc, .slice da dz.length dc], .int .i64 (m : Nat), .int .i64 (n : Nat)] w (UR (liE f sz dz x m n) false (onl (liE f sz dz x m n) (sz.set x m)) (onl (liE f sz dz x m n) (liD f sz dz x m n)) w) := by
  have he := (flawE_zero hfl).1
  have heS : errOf (sz.set x (m : Int)) = 0 := err_set he hx (by omega) hm
  have hz := errOf_zero.1 he
  obtain ⟨l, hl⟩ : ∃ l, sz.length = l := ⟨_, rfl⟩
  have hl6 : l ≤ 6 := by rw [← hl]; exact hz.1
  have hdl : dz.length ≤ 4096 := by have := hz.2.2; have := (flawE_zero hfl).2.1; omega
  have hL4 := (hz.2.1.nth x).2
  obtain ⟨S, hS⟩ : ∃ S, S = sz.set x (m : Int) := ⟨_, rfl⟩
  have hzS := errOf_zero.1 heS
  rw [← hS] at hzS heS
  have hSn := prod_nonneg hzS.2.1
  obtain ⟨N, hN⟩ : ∃ N : Nat, prod S = N := ⟨(prod S).toNat, by omega⟩
  have hN4 : N ≤ 4096 := by have := hzS.2.2; omega
  obtain ⟨D, hD⟩ : ∃ D, D = liD f sz dz x m n := ⟨_, rfl⟩
  have HD : Hid (D = liD f sz dz x m n ∧ D.length = N ∧ ∀ k, k < N → nth D k = fdV f (liG sz dz x n (cr S k))) := ⟨hD, by rw [hD]; unfold liD; rw [← hS, TA_length, hN, Int.toNat_natCast], fun k hk => by rw [hD]; unfold liD; rw [← hS]; exact nth_range12 (by rw [hN, Int.toNat_natCast]; exact hk)⟩
  have HI : Hid (IsInts w.heap.size w sa sz ∧ IsInts w.heap.size w da dz ∧ ∀ j, In64 (nth dz j)) := ⟨hs, hd, T⟩
  have HF : Hid ((1 ≤ f ∧ f ≤ 16) ∧ errOf sz = 0 ∧ (dz.length : Int) = prod sz ∧ sz.length = l ∧ ((m : Int) ≤ nth sz x) ∧ (n = 0 ∨ (m : Int) + n ≤ nth sz x + 1) ∧ nth sz x ≤ 4096) := ⟨hf, he, (flawE_zero hfl).2.1, hl, hm, hmn, hL4⟩
  have HS : Hid (S = sz.set x (m : Int) ∧ errOf S = 0 ∧ prod S = N ∧ S.length = l) := ⟨hS, heS, hN, by rw [hS, List.length_set]; exact hl⟩
  have hxl : x < l := by rw [← hl]; exact hx
  rw [hl]
  have hs2 : ((w.alloc (.cells #[.bool false, .slice sa l sc, .slice da dz.length dc] 25)).alloc (.cells #[.bool false, .slice none 0 0, .slice none 0 0] 25)).heap.size = w.heap.size + 2 := by simp
  have HA0 : Hid (Abx (((w.alloc (.cells #[.bool false, .slice sa l sc, .slice da dz.length dc] 25)).alloc (.cells #[.bool false, .slice none 0 0, .slice none 0 0] 25)).alloc (.cells #[.bool false, .slice none 0 0, .slice none 0 0] 25)) w.heap.size (.bool false) (.slice sa l sc) (.slice da dz.length dc) ∧ Abx (((w.alloc (.cells #[.bool false, .slice sa l sc, .slice da dz.length dc] 25)).alloc (.cells #[.bool false, .slice none 0 0, .slice none 0 0] 25)).alloc (.cells #[.bool false, .slice none 0 0, .slice none 0 0] 25)) (w.heap.size + 1) (.bool false) (.slice none 0 0) (.slice none 0 0) ∧ Abx (((w.alloc (.cells #[.bool false, .slice sa l sc, .slice da dz.length dc] 25)).alloc (.cells #[.bool false, .slice none 0 0, .slice none 0 0] 25)).alloc (.cells #[.bool false, .slice none 0 0, .slice none 0 0] 25)) (w.heap.size + 2) (.bool false) (.slice none 0 0) (.slice none 0 0) ∧ w.heap.size + 3 ≤ (((w.alloc (.cells #[.bool false, .slice sa l sc, .slice da dz.length dc] 25)).alloc (.cells #[.bool false, .slice none 0 0, .slice none 0 0] 25)).alloc (.cells #[.bool false, .slice none 0 0, .slice none 0 0] 25)).heap.size ∧ Below w.heap.size w (((w.alloc (.cells #[.bool false, .slice sa l sc, .slice da dz.length dc] 25)).alloc (.cells #[.bool false, .slice none 0 0, .slice none 0 0] 25)).alloc (.cells #[.bool false, .slice none 0 0, .slice none 0 0] 25))) :=
    ⟨((Abx.new w _ _ _).al _).al _, (Abx.new1 w _ _ _ _).al _, by have := Abx.new ((w.alloc (.cells #[.bool false, .slice sa l sc, .slice da dz.length dc] 25)).alloc (.cells #[.bool false, .slice none 0 0, .slice none 0 0] 25)) (.bool false) (.slice none 0 0) (.slice none 0 0); rwa [hs2] at this, by simp, ((((Below.refl _ w).alloc (Nat.le_refl _) _).alloc (by simp) _)).alloc (by simp; omega) _⟩
  clear hs hd T he heS hz hl hS hzS hSn hN hD hf hfl hx hm hmn hL4 hs2
  go_enter Tryd.func27, Tryd.ntmps27
  go_wp2_with fail
  go_loopw [13] (fun i wr => ∃ (k : Nat) (v : Value), k ≤ l ∧ i = .int .i64 k ∧ wr.ownsRow (w.heap.size + 3) 3 1 v (sz.take k).length ((sz.take k).map (Value.int .i64)) ∧ Abx wr w.heap.size (.bool false) (.slice sa l sc) (.slice da dz.length dc) ∧ Abx wr (w.heap.size + 1) (.bool false) (.slice none 0 0) (.slice none 0 0) ∧ Abx wr (w.heap.size + 2) (.bool false) v (.slice none 0 0) ∧ w.heap.size + 3 ≤ wr.heap.size ∧ Below w.heap.size w wr) (fun i _ => l - (intOf i).toNat)
  case atStart => exact ⟨0, .slice none 0 0, Nat.zero_le _, rfl, World.ownsRow_nil _ _ _ _, HA0.out.1, HA0.out.2.1, HA0.out.2.2.1, HA0.out.2.2.2.1, HA0.out.2.2.2.2⟩
  case round =>
    clear HA0
    obtain ⟨k, v, hk, rfl, hown, hA, hR, hO, hsz, hB⟩ := hrel
    have p1 := hA.c1
    by_cases hlt : k < l
    · have hkz : k < sz.length := by rw [HF.out.2.2.2.1]; exact hlt
      obtain ⟨bs, os, rfl, hbs, hcS⟩ := (HI.out.1.below hB).at hkz
      have cs := hcS k hkz
      obtain ⟨T0, hT0⟩ : ∃ T0, T0 = nth sz k := ⟨_, rfl⟩
      rw [← hT0] at cs
      obtain ⟨Q, hQ⟩ : ∃ Q, Q = sz.take k := ⟨_, rfl⟩
      rw [← hQ] at hown
      have HQ : Hid (Q.length = k ∧ sz.take (k + 1) = Q ++ [T0]) := ⟨by rw [hQ, List.length_take]; omega, by rw [hT0, hQ, take_snoc sz k hkz]⟩
      have hQl : Q.length ≤ 6 := by rw [HQ.out.1]; omega
      have HA : Hid (Abx wr w.heap.size (.bool false) (.slice (some ⟨bs, os, none⟩) l sc) (.slice da dz.length dc) ∧ Abx wr (w.heap.size + 1) (.bool false) (.slice none 0 0) (.slice none 0 0) ∧ Abx wr (w.heap.size + 2) (.bool false) v (.slice none 0 0) ∧ Below w.heap.size w wr) := ⟨hA, hR, hO, hB⟩
      have o1 := hO.c1
      have hws : w.heap.size ≤ wr.heap.size := hB.size
      clear hcS hT0 hQ hkz hA hR hO hB
      go_wp2_with fail
      refine anyT_begin 9 (fun w' => w'.cell? ⟨w.heap.size + 2, 1, none⟩ = some v ∧ w'.cell? ⟨w.heap.size, 1, none⟩ = some (.slice (some ⟨bs, os, none⟩) l sc) ∧ w'.cell? ⟨bs, os + k, none⟩ = some (.int .i64 T0)) 11 #[false, false, false, false, false, false, false, false, false, false, false] (by kernel_rfl) rfl rfl ?_
      refine anyT_put 0 28 ?rv12 #[true, false, false, false, false, false, false, false, false, false, false] rfl rfl rfl (by kernel_rfl) (by kernel_rfl) (by kernel_rfl) (fun _ _ _ h => h) (by decide) ?ry12 (fun _ => ⟨o1, p1, cs⟩) ?rm12
      case ry12 => first | exact Or.inl ⟨by rfl, by intro w'; go_simp; first | done | rfl⟩
      case rm12 =>
      simp only [Act.put, List.setIfInBounds_toArray, List.set_cons_zero, List.set_cons_succ]
      refine anyT_take 1 29 ?rv13 #[true, true, false, false, false, false, false, false, false, false, false] rfl rfl rfl (by kernel_rfl) (by kernel_rfl) (by kernel_rfl) (fun _ _ _ h => h) (by kernel_rfl) (by decide) (by kernel_rfl) ?ry13 (⟨o1, p1, cs⟩) ?rm13
      case ry13 => first | exact Or.inl ⟨by rfl, by intro w' hw'; (try dsimp only at hw'); go_simp; first | done | rfl⟩
      case rm13 =>
      simp only [Act.put, List.setIfInBounds_toArray, List.set_cons_zero, List.set_cons_succ]
      refine anyT_put 2 30 ?rv14 #[true, true, true, false, false, false, false, false, false, false, false] rfl rfl rfl (by kernel_rfl) (by kernel_rfl) (by kernel_rfl) (fun _ _ _ h => h) (by decide) ?ry14 (fun _ => ⟨o1, p1, cs⟩) ?rm14
      case ry14 => first | exact Or.inl ⟨by rfl, by intro w'; go_simp; first | done | rfl⟩
      case rm14 =>
      simp only [Act.put, List.setIfInBounds_toArray, List.set_cons_zero, List.set_cons_succ]
      refine anyT_take 3 31 ?rv15 #[true, true, true, true, false, false, false, false, false, false, false] rfl rfl rfl (by kernel_rfl) (by kernel_rfl) (by kernel_rfl) (fun _ _ _ h => h) (by kernel_rfl) (by decide) (by kernel_rfl) ?ry15 (⟨o1, p1, cs⟩) ?rm15
      case ry15 => first | exact Or.inl ⟨by rfl, by intro w' hw'; (try dsimp only at hw'); go_simp; first | done | rfl⟩
      case rm15 =>
      simp only [Act.put, List.setIfInBounds_toArray, List.set_cons_zero, List.set_cons_succ]
      refine anyT_put 4 32 ?rv16 #[true, true, true, true, true, false, false, false, false, false, false] rfl rfl rfl (by kernel_rfl) (by kernel_rfl) (by kernel_rfl) (fun _ _ _ h => h) (by decide) ?ry16 (fun _ => ⟨o1, p1, cs⟩) ?rm16
      case ry16 => first | exact Or.inl ⟨by rfl, by intro w'; go_simp; first | done | rfl⟩
      case rm16 =>
      simp only [Act.put, List.setIfInBounds_toArray, List.set_cons_zero, List.set_cons_succ]
      refine anyT_put 5 33 ?rv17 #[true, true, true, true, true, true, false, false, false, false, false] rfl rfl rfl (by kernel_rfl) (by kernel_rfl) (by kernel_rfl) (fun _ _ _ h => h) (by decide) ?ry17 (fun _ => ⟨o1, p1, cs⟩) ?rm17
      case ry17 => first | exact Or.inl ⟨by rfl, by intro w'; go_simp; first | done | rfl⟩
      case rm17 =>
      simp only [Act.put, List.setIfInBounds_toArray, List.set_cons_zero, List.set_cons_succ]
      refine anyT_take 6 34 ?rv18 #[true, true, true, true, true, true, true, false, false, false, false] rfl rfl rfl (by kernel_rfl) (by kernel_rfl) (by kernel_rfl) (fun _ _ _ h => h) (by kernel_rfl) (by decide) (by kernel_rfl) ?ry18 (⟨o1, p1, cs⟩) ?rm18
      case ry18 => first | exact Or.inl ⟨by rfl, by intro w' hw'; (try dsimp only at hw'); go_simp; first | done | rfl⟩
      case rm18 =>
      simp only [Act.put, List.setIfInBounds_toArray, List.set_cons_zero, List.set_cons_succ]
      refine anyT_one 7 #[true, true, true, true, true, true, true, true, false, false, false] (by kernel_rfl) rfl rfl (fun K hK => ?_)
      go_simp
      have k0 := HA.out.1.al (.cells #[.int .i64 T0] 3)
      have k1 := HA.out.2.2.1.al (.cells #[.int .i64 T0] 3)
      have k2 : (wr.alloc (.cells #[.int .i64 T0] 3)).cell? ⟨bs, os + k, none⟩ = some (.int .i64 T0) := (World.cell?_alloc_lt wr _ ⟨bs, os + k, none⟩ (by show bs < wr.heap.size; omega)).trans cs
      refine hK.out _ _ (fun _ => ⟨k1.c1, k0.c1, k2⟩) ?_
      clear hK K
      refine anyT_one 8 #[true, true, true, true, true, true, true, true, true, false, false] (by kernel_rfl) rfl rfl (fun K hK => ?_)
      refine app_step 36 rfl rfl _ _ rfl _ (w.heap.size + 3) wr.heap.size v Q T0 rfl rfl ((hown.alloc _).drew) (heap_alloc_new wr _) (by omega) (by simp; omega) ?_
      intro g1 gc1 w4 hown1 hB4
      have P7 := k0.dr.bel hB4 (by omega)
      have HO1 : Hid (Abx w4 (w.heap.size + 2) (.bool false) v (.slice none 0 0)) := k1.dr.bel hB4 (by omega)
      have x1 := HO1.out.c1
      have xf := HO1.out.fr 1
      have xd : w4.cell? ⟨bs, os + k, none⟩ = some (.int .i64 T0) := (hB4.cell (p := ⟨bs, os + k, none⟩) (by show bs < _; omega)).trans k2
      refine hK.out _ _ (fun _ => ⟨x1, P7.c1, xd⟩) ?_
      clear hK K
      simp only [Act.put, List.setIfInBounds_toArray, List.set_cons_zero, List.set_cons_succ]
      refine anyT_one 9 #[true, true, true, true, true, true, true, true, true, true, false] (by kernel_rfl) rfl rfl (fun K hK => ?_)
      go_simp
      refine hK.out _ _ (fun h => absurd h (by decide)) ?_
      clear hK K
      refine anyT_one 10 #[true, true, true, true, true, true, true, true, true, true, true] (by kernel_rfl) rfl rfl (fun K hK => ?_)
      go_simp
      refine hK.out _ _ (fun h => absurd h (by decide)) ?_
      clear hK K
      refine anyT_done (by kernel_rfl) ?_
      go_wp2_with fail
      have hz4 := hB4.size
      simp at hz4
      refine ⟨⟨k + 1, .slice (some ⟨g1, 0, none⟩) (Q.length + 1) gc1, by omega, by go_num, ?_, P7.ot (by show w.heap.size ≠ w.heap.size + 2; omega) _, ?_, HO1.out.s1 _, by simp [World.setCell]; omega, ?_⟩, by simp [intOf]; omega⟩
      · rw [HQ.out.2, List.length_append, List.length_singleton]
        exact ownsRow_setCell_below hown1 (by show w.heap.size + 2 < w.heap.size + 3; omega) _
      · exact (((HA.out.2.1.al _).dr.bel hB4 (by omega))).ot (by show w.heap.size + 1 ≠ w.heap.size + 2; omega) _
      · exact (((HA.out.2.2.2.alloc HA.out.2.2.2.size _).drew.trans (hB4.mono (by omega)))).setCell (p := ⟨w.heap.size + 2, 1, none⟩) (by show w.heap.size ≤ w.heap.size + 2; omega) _
    · obtain rfl : k = l := by omega
      have htt : sz.take k = sz := List.take_of_length_le (by rw [HF.out.2.2.2.1]; exact Nat.le_refl _)
      rw [htt] at hown
      obtain ⟨g, gc, rfl, hN⟩ := own_cap hown
      have hM := hN.midc
      obtain ⟨bg, og, rfl, hg1, hg2, cg, fg⟩ := hM.at (i := x) (by rw [HF.out.2.2.2.1]; exact hxl)
      rw [HF.out.2.2.2.1] at hO
      have hM2 := hM.put (i := x) (by rw [HF.out.2.2.2.1]; exact hxl) (m : Int)
      rw [← HS.out.1] at hM2
      obtain ⟨u, hu⟩ : ∃ u, u = wr.setCell ⟨bg, og + x, none⟩ (.int .i64 (m : Int)) := ⟨_, rfl⟩
      have hus : u.heap.size = wr.heap.size := by rw [hu]; simp [World.setCell]
      have HU : Hid (wr.setCell ⟨bg, og + x, none⟩ (.int .i64 (m : Int)) = u) := hu.symm
      have HUM : Hid (MidC (w.heap.size + 3) u.heap.size u (some ⟨bg, og, none⟩) S gc) := by rw [hus, hu]; exact hM2
      have HUA : Hid (Abx u w.heap.size (.bool false) (.slice sa k sc) (.slice da dz.length dc) ∧ Abx u (w.heap.size + 1) (.bool false) (.slice none 0 0) (.slice none 0 0) ∧ Abx u (w.heap.size + 2) (.bool false) (.slice (some ⟨bg, og, none⟩) k gc) (.slice none 0 0) ∧ Below w.heap.size w u) := by
        rw [hu]
        exact ⟨hA.ot (a := ⟨bg, og + x, none⟩) (by show w.heap.size ≠ bg; omega) _, hR.ot (a := ⟨bg, og + x, none⟩) (by show w.heap.size + 1 ≠ bg; omega) _, hO.ot (a := ⟨bg, og + x, none⟩) (by show w.heap.size + 2 ≠ bg; omega) _, hB.setCell (p := ⟨bg, og + x, none⟩) (by show w.heap.size ≤ bg; omega) _⟩
      have hu3 : w.heap.size + 3 ≤ u.heap.size := by omega
      have o1 := hO.c1
      have y1 := HUA.out.2.2.1.c1
      clear hown htt hN hM hM2 hA hR hO hB hu hus hsz hlt hk
      have hcells := cells_l (some ⟨bg, og, none⟩) gc S k N HS.out.2.2.2 HS.out.2.2.1 (by omega) HS.out.2.1 u.heap.size u (HUM.out.is (Nat.le_refl _)).1
      go_wp2_with fail
      rw [HU.out]
      refine hcells.mono ?_
      rintro e w1 ⟨rfl, hw1⟩
      obtain rfl := hw1.symm
      clear hcells hw1 o1 p1 cg fg y1
      go_wp2_with fail
      go_loopw [15] (fun i wq => ∃ (q : Nat) (v : Value), q ≤ N ∧ i = .int .i64 q ∧ wq.ownsRow u.heap.size 3 1 v (D.take q).length ((D.take q).map (Value.int .i64)) ∧ Abx wq w.heap.size (.bool false) (.slice sa k sc) (.slice da dz.length dc) ∧ Abx wq (w.heap.size + 1) (.bool false) (.slice none 0 0) (.slice none 0 0) ∧ Abx wq (w.heap.size + 2) (.bool false) (.slice (some ⟨bg, og, none⟩) k gc) v ∧ MidC (w.heap.size + 3) u.heap.size wq (some ⟨bg, og, none⟩) S gc ∧ (∀ i, i < q → fdE f (liG sz dz x n (cr S i)) = 0) ∧ u.heap.size ≤ wq.heap.size ∧ Below w.heap.size w wq) (fun i _ => N - (intOf i).toNat)
      case atStart => exact ⟨0, .slice none 0 0, Nat.zero_le _, rfl, World.ownsRow_nil _ _ _ _, HUA.out.1, HUA.out.2.1, HUA.out.2.2.1, HUM.out, fun i hi => absurd hi (Nat.not_lt_zero _), Nat.le_refl _, HUA.out.2.2.2⟩
      case round =>
        clear HUA HUM HU
        obtain ⟨q, v, hqN, rfl, hown, hA, hR, hO, hM, hok, hsz, hB⟩ := hrel
        by_cases hlq : q < N
        · obtain ⟨t0, ht0⟩ : ∃ t0, t0 = cr S q := ⟨_, rfl⟩
          have hcr := (cr_fact HS.out.2.1 (i := q) (by rw [HS.out.2.2.1]; omega)).1
          rw [← ht0] at hcr
          have htl : t0.length = k := by rw [insB_len hcr]; exact HS.out.2.2.2
          obtain ⟨Q, hQ⟩ : ∃ Q, Q = D.take q := ⟨_, rfl⟩
          rw [← hQ] at hown
          have HQ : Hid (Q.length = q ∧ D.take (q + 1) = Q ++ [nth D q]) := ⟨by rw [hQ, List.length_take, HD.out.2.1]; omega, by rw [hQ, take_snoc D q (by rw [HD.out.2.1]; exact hlq)]⟩
          have HOk : Hid (∀ i, i < q → fdE f (liG sz dz x n (cr S i)) = 0) := hok
          have H0 : Hid (Abx wr w.heap.size (.bool false) (.slice sa k sc) (.slice da dz.length dc) ∧ Abx wr (w.heap.size + 1) (.bool false) (.slice none 0 0) (.slice none 0 0) ∧ Abx wr (w.heap.size + 2) (.bool false) (.slice (some ⟨bg, og, none⟩) k gc) v ∧ MidC (w.heap.size + 3) u.heap.size wr (some ⟨bg, og, none⟩) S gc ∧ wr.ownsRow u.heap.size 3 1 v Q.length (Q.map (Value.int .i64)) ∧ u.heap.size ≤ wr.heap.size ∧ Below w.heap.size w wr) := ⟨hA, hR, hO, hM, hown, hsz, hB⟩
          have hco := coords_l (some ⟨bg, og, none⟩) gc S k q HS.out.2.2.2 HS.out.2.1 (by rw [HS.out.2.2.1]; omega) wr (hM.is hsz).1
          rw [← ht0] at hco
          have o1 := hO.c1
          clear hown hA hR hO hM hok hsz hB hQ
          go_wp2_with fail
          refine hco.mono ?_
          rintro e w1 ⟨ta, tc, rfl, hT, hB1⟩
          obtain ⟨bt, ot, rfl, hbt1, hbt2, ct, _⟩ : ∃ b o, ta = some ⟨b, o, none⟩ ∧ wr.heap.size ≤ b ∧ b < w1.heap.size ∧ (∀ j, j < t0.length → w1.cell? ⟨b, o + j, none⟩ = some (.int .i64 (nth t0 j))) ∧ True := by
            rcases hT with e0 | ⟨b, o, e0, h0, h1, h2, _⟩
            · rw [e0] at htl; simp at htl; omega
            · exact ⟨b, o, e0, h0, h1, h2, trivial⟩
          have H1 : Hid (Abx w1 w.heap.size (.bool false) (.slice sa k sc) (.slice da dz.length dc) ∧ Abx w1 (w.heap.size + 1) (.bool false) (.slice none 0 0) (.slice none 0 0) ∧ Abx w1 (w.heap.size + 2) (.bool false) (.slice (some ⟨bg, og, none⟩) k gc) v ∧ MidC (w.heap.size + 3) u.heap.size w1 (some ⟨bg, og, none⟩) S gc ∧ w1.ownsRow u.heap.size 3 1 v Q.length (Q.map (Value.int .i64)) ∧ u.heap.size ≤ w1.heap.size ∧ Below w.heap.size w w1) := ⟨H0.out.1.go hB1, H0.out.2.1.go hB1, H0.out.2.2.1.go hB1, H0.out.2.2.2.1.go H0.out.2.2.2.2.2.1 hB1, own_go H0.out.2.2.2.2.1 hB1, Nat.le_trans H0.out.2.2.2.2.2.1 hB1.size, H0.out.2.2.2.2.2.2.trans (hB1.mono H0.out.2.2.2.2.2.2.size)⟩
          have hxi := ins_at (x := x) hcr (by rw [HS.out.2.2.2]; exact hxl)
          have hxm : nth t0 x < (m : Int) := by
            have h := hxi.2
            rw [HS.out.1, nth_set_self (by rw [HF.out.2.2.2.1]; exact hxl)] at h
            exact h
          obtain ⟨i0, hi0⟩ : ∃ i0 : Nat, nth t0 x = i0 := ⟨(nth t0 x).toNat, by omega⟩
          have c1t := ct x (by rw [htl]; exact hxl)
          rw [hi0] at c1t
          have hiL : (i0 : Int) < (m : Int) := by rw [← hi0]; exact hxm
          have him := HF.out.2.2.2.2.1
          have hL4 := HF.out.2.2.2.2.2.2
          have hbk : ∀ vv : Int, 0 ≤ vv → vv < nth sz x → insB sz (t0.set x vv) = true := fun vv h0 h1 => ins_back12 (m := (m : Int)) (by rw [HF.out.2.2.2.1]; exact hxl) (by rw [← HS.out.1]; exact hcr) h0 h1
          have HBK : Hid (∀ vv : Int, 0 ≤ vv → vv < nth sz x → insB sz (t0.set x vv) = true) := hbk
          have HTT : Hid (IsInts w1.heap.size w1 (some ⟨bt, ot, none⟩) t0 ∧ nth t0 x = i0 ∧ nth sz x ≤ 4096 ∧ (m : Int) ≤ nth sz x) := ⟨hT.ints, hi0, hL4, him⟩
          have hi4 : i0 < 4096 := by omega
          obtain ⟨i1, hi1⟩ : ∃ i1, i1 = i0 + 1 := ⟨_, rfl⟩
          have hw1 : IntKind.i64.wrap ((i0 : Int) + 1) = ((i1 : Nat) : Int) := by rw [IntWalk.i64_in _ (by omega), hi1]; rfl
          have HI1 : Hid (i1 = i0 + 1) := hi1
          have hi5 : i1 ≤ 4096 := by omega
          clear hi1
          have HL1 : Hid (Calls Tryd.prog 19 #[.agg #[.bool false, .slice sa k sc, .slice da dz.length dc], .int .i64 (x : Nat), .slice (some ⟨bt, ot, none⟩) k tc, .int .i64 0, .int .i64 (i1 : Nat)] w1.drew fun e w' => ∃ g gc, e = .returned (.slice g i1 gc) ∧ NewC w1.heap.size w' g (lnL sz dz x t0 0 i1) gc ∧ Below w1.drew.heap.size w1.drew w') :=
            line2_any false sa sc sz da dc dz x (some ⟨bt, ot, none⟩) tc t0 0 i1 k htl HF.out.2.2.2.1 hxl HF.out.2.1 HF.out.2.2.1 (fun j hj => HBK.out _ (by omega) (by have := HTT.out.2.2.2; have := HI1.out; omega)) (by omega) (by omega) w1.drew ((HI.out.1.below H1.out.2.2.2.2.2.2).mono H1.out.2.2.2.2.2.2.size) ((HI.out.2.1.below H1.out.2.2.2.2.2.2).mono H1.out.2.2.2.2.2.2.size) hT.ints
          have c10 := H1.out.1.c0
          have c11 := H1.out.1.c1
          have c12 := H1.out.1.c2
          clear hco hB1 hT ct hxi hxm hi0 him hL4 hbk o1
          go_wp2_with fail
          refine anyT_begin 9 (fun w' => w'.cell? ⟨w.heap.size, 0, none⟩ = some (.bool false) ∧ w'.cell? ⟨w.heap.size, 1, none⟩ = some (.slice sa k sc) ∧ w'.cell? ⟨w.heap.size, 2, none⟩ = some (.slice da dz.length dc) ∧ w'.cell? ⟨bt, ot + x, none⟩ = some (.int .i64 (i0 : Nat))) 10 #[false, false, false, false, false, false, false, false, false, false] (by kernel_rfl) rfl rfl ?_
          refine anyT_take 0 55 ?rv23 #[true, false, false, false, false, false, false, false, false, false] rfl rfl rfl (by kernel_rfl) (by kernel_rfl) (by kernel_rfl) (fun _ _ _ h => h) (by kernel_rfl) (by decide) (by kernel_rfl) ?ry23 (⟨c10, c11, c12, c1t⟩) ?rm23
          case ry23 => first | exact Or.inl ⟨by rfl, by intro w' hw'; (try dsimp only at hw'); go_simp; first | done | rfl⟩
          case rm23 =>
          simp only [Act.put, List.setIfInBounds_toArray, List.set_cons_zero, List.set_cons_succ]
          refine anyT_put 1 56 ?rv24 #[true, true, false, false, false, false, false, false, false, false] rfl rfl rfl (by kernel_rfl) (by kernel_rfl) (by kernel_rfl) (fun _ _ _ h => h) (by decide) ?ry24 (fun _ => ⟨c10, c11, c12, c1t⟩) ?rm24
          case ry24 => first | exact Or.inl ⟨by rfl, by intro w'; go_simp; first | done | rfl⟩
          case rm24 =>
          simp only [Act.put, List.setIfInBounds_toArray, List.set_cons_zero, List.set_cons_succ]
          refine anyT_put 2 57 ?rv25 #[true, true, true, false, false, false, false, false, false, false] rfl rfl rfl (by kernel_rfl) (by kernel_rfl) (by kernel_rfl) (fun _ _ _ h => h) (by decide) ?ry25 (fun _ => ⟨c10, c11, c12, c1t⟩) ?rm25
          case ry25 => first | exact Or.inl ⟨by rfl, by intro w'; go_simp; first | done | rfl⟩
          case rm25 =>
          simp only [Act.put, List.setIfInBounds_toArray, List.set_cons_zero, List.set_cons_succ]
          refine anyT_put 3 58 ?rv26 #[true, true, true, true, false, false, false, false, false, false] rfl rfl rfl (by kernel_rfl) (by kernel_rfl) (by kernel_rfl) (fun _ _ _ h => h) (by decide) ?ry26 (fun _ => ⟨c10, c11, c12, c1t⟩) ?rm26
          case ry26 => first | exact Or.inl ⟨by rfl, by intro w'; go_simp; first | done | rfl⟩
          case rm26 =>
          simp only [Act.put, List.setIfInBounds_toArray, List.set_cons_zero, List.set_cons_succ]
          refine anyT_put 4 59 ?rv27 #[true, true, true, true, true, false, false, false, false, false] rfl rfl rfl (by kernel_rfl) (by kernel_rfl) (by kernel_rfl) (fun _ _ _ h => h) (by decide) ?ry27 (fun _ => ⟨c10, c11, c12, c1t⟩) ?rm27
          case ry27 => first | exact Or.inl ⟨by rfl, by intro w'; go_simp; first | done | rfl⟩
          case rm27 =>
          simp only [Act.put, List.setIfInBounds_toArray, List.set_cons_zero, List.set_cons_succ]
          refine anyT_put 5 60 ?rv28 #[true, true, true, true, true, true, false, false, false, false] rfl rfl rfl (by kernel_rfl) (by kernel_rfl) (by kernel_rfl) (fun _ _ _ h => h) (by decide) ?ry28 (fun _ => ⟨c10, c11, c12, c1t⟩) ?rm28
          case ry28 => first | exact Or.inl ⟨by rfl, by intro w'; go_simp; first | done | rfl⟩
          case rm28 =>
          simp only [Act.put, List.setIfInBounds_toArray, List.set_cons_zero, List.set_cons_succ]
          refine anyT_take 6 61 ?rv29 #[true, true, true, true, true, true, true, false, false, false] rfl rfl rfl (by kernel_rfl) (by kernel_rfl) (by kernel_rfl) (fun _ _ _ h => h) (by kernel_rfl) (by decide) (by kernel_rfl) ?ry29 (⟨c10, c11, c12, c1t⟩) ?rm29
          case ry29 => first | exact Or.inl ⟨by rfl, by intro w' hw'; (try dsimp only at hw'); go_simp; first | done | rfl⟩
          case rm29 =>
          simp only [Act.put, List.setIfInBounds_toArray, List.set_cons_zero, List.set_cons_succ]
          refine anyT_put 7 62 ?rv30 #[true, true, true, true, true, true, true, true, false, false] rfl rfl rfl (by kernel_rfl) (by kernel_rfl) (by kernel_rfl) (fun _ _ _ h => h) (by decide) ?ry30 (fun _ => ⟨c10, c11, c12, c1t⟩) ?rm30
          case ry30 => first | exact Or.inl ⟨by rfl, by intro w'; go_simp; first | done | rfl⟩
          case rm30 =>
          simp only [Act.put, List.setIfInBounds_toArray, List.set_cons_zero, List.set_cons_succ]
          refine anyT_one 8 #[true, true, true, true, true, true, true, true, true, false] (by kernel_rfl) rfl rfl (fun K hK => ?_)
          go_simp
          go_wp2_with (go_at_call 19; refine HL1.out.mono ?_; rintro e w2 ⟨gl, glc, rfl, hNl, hBl⟩)
          have HBl : Hid (Below w1.heap.size w1 w2) := (Below.refl _ w1).drew.trans hBl
          have A3 := H1.out.1.go HBl.out
          have c3 := (HBl.out.cell (p := ⟨bt, ot + x, none⟩) (by show bt < _; omega)).trans c1t
          refine hK.out _ _ (fun _ => ⟨A3.c0, A3.c1, A3.c2, c3⟩) ?_
          clear hK K
          refine anyT_one 9 #[true, true, true, true, true, true, true, true, true, true] (by kernel_rfl) rfl rfl (fun K hK => ?_)
          go_simp
          refine hK.out _ _ (fun h => absurd h (by decide)) ?_
          clear hK K
          refine anyT_done (by kernel_rfl) ?_
          have H2 : Hid (Abx w2 w.heap.size (.bool false) (.slice sa k sc) (.slice da dz.length dc) ∧ Abx w2 (w.heap.size + 1) (.bool false) (.slice none 0 0) (.slice none 0 0) ∧ Abx w2 (w.heap.size + 2) (.bool false) (.slice (some ⟨bg, og, none⟩) k gc) v ∧ MidC (w.heap.size + 3) u.heap.size w2 (some ⟨bg, og, none⟩) S gc ∧ w2.ownsRow u.heap.size 3 1 v Q.length (Q.map (Value.int .i64)) ∧ u.heap.size ≤ w2.heap.size ∧ Below w.heap.size w w2) := ⟨H1.out.1.go HBl.out, H1.out.2.1.go HBl.out, H1.out.2.2.1.go HBl.out, H1.out.2.2.2.1.go H1.out.2.2.2.2.2.1 HBl.out, own_go H1.out.2.2.2.2.1 HBl.out, Nat.le_trans H1.out.2.2.2.2.2.1 HBl.out.size, H1.out.2.2.2.2.2.2.trans (HBl.out.mono H1.out.2.2.2.2.2.2.size)⟩
          have HN_w2 : Hid (NewC w1.heap.size w2 gl _ glc) := hNl
          have ht_w2 := HBl.out.size
          by_cases hn0 : n = 0
          · have hn1 : ¬ (0 : Int) < (n : Int) := by omega
            have HG : Hid (liG sz dz x n t0 = lnL sz dz x t0 0 i1) := by show _ = _; unfold liG; rw [if_pos hn0, HTT.out.2.1]; congr 1; have := HI1.out; omega
            clear hn0
            go_wp2_with fail
            obtain ⟨LL, hLL⟩ : ∃ LL, LL = lnL sz dz x t0 0 i1 := ⟨_, rfl⟩
            have hfo := folded_any f LL i1 (by rw [hLL, lnL_length]) gl glc (by omega) w2 (by rw [hLL]; exact HN_w2.out.ints) (by rw [hLL]; exact l64r (lnL_64 HI.out.2.2 _ _ _ _))
            have HLG : Hid (liG sz dz x n t0 = LL) := by show _ = _; rw [hLL]; exact HG.out
            refine hfo.mono ?_
            rintro e w9 ⟨rfl, hw9⟩
            obtain rfl := hw9.symm
            clear hfo hw9 hLL
            by_cases hq : fdE f LL = 0
            · have t0' : (fdE f LL != 0) = false := by simp [hq]
              have HV : Hid (fdV f LL = nth D q) := by show _ = _; rw [← HLG.out, ht0, HD.out.2.2 q hlq]
              have HO : Hid (fdE f (liG sz dz x n (cr S q)) = 0) := by show _ = _; rw [← ht0, HLG.out]; exact hq
              have HN9 : Hid ((w2.alloc (.cells #[.int .i64 (fdV f LL)] 3)).heap[w2.heap.size]? = some (.cells #[.int .i64 (fdV f LL)] 3 (0, 0))) := World.alloc_heap_new _ _
              have o2 := H2.out.2.2.1.c2
              have o3 := (H2.out.2.2.1.al (.cells #[.int .i64 (fdV f LL)] 3)).c2
              have hsW := H2.out.2.2.2.2.2.1
              clear hq
              go_wp2_with (at_builtin; refine app_list rfl _ _ rfl _ u.heap.size w2.heap.size v Q (fdV f LL) rfl rfl (H2.out.2.2.2.2.1.alloc _) HN9.out (by rw [HQ.out.1]; omega) (by simp; omega) ?_; intro g1 gc1 w5 hown1 hB5; have HO5 : Hid (Abx w5 (w.heap.size + 2) (.bool false) (.slice (some ⟨bg, og, none⟩) k gc) v) := (H2.out.2.2.1.al _).bel hB5 (by omega); have o5 := HO5.out.c2; have of5 := HO5.out.fr 2)
              have hz5 := hB5.size
              simp at hz5
              refine ⟨⟨q + 1, .slice (some ⟨g1, 0, none⟩) (Q.length + 1) gc1, by omega, by go_num, ?_, ((H2.out.1.al _).bel hB5 (by omega)).ot (by show w.heap.size ≠ w.heap.size + 2; omega) _, ((H2.out.2.1.al _).bel hB5 (by omega)).ot (by show w.heap.size + 1 ≠ w.heap.size + 2; omega) _, HO5.out.s2 _, ?_, ?_, by simp [World.setCell]; omega, ?_⟩, by simp [intOf]; omega⟩
              · rw [HQ.out.2, ← HV.out, List.length_append, List.length_singleton]
                exact ownsRow_setCell_below hown1 (by show w.heap.size + 2 < u.heap.size; omega) _
              · exact MidC.s1 ⟨((H2.out.2.2.2.1.1.al (by omega) _).bel hB5), H2.out.2.2.2.1.2⟩ (p := ⟨w.heap.size + 2, 2, none⟩) (.inl (by show w.heap.size + 2 < w.heap.size + 3; omega)) _
              · intro i hi
                by_cases e : i = q
                · rw [e]; exact HO.out
                · exact HOk.out i (by omega)
              · exact ((H2.out.2.2.2.2.2.2.alloc H2.out.2.2.2.2.2.2.size _).trans (hB5.mono (by omega))).setCell (p := ⟨w.heap.size + 2, 2, none⟩) (by show w.heap.size ≤ w.heap.size + 2; omega) _
            · have t0' : (fdE f LL != 0) = true := by simp [hq]
              have hsix := (fdE_cases HF.out.1 LL).resolve_left hq
              have HX : Hid (liE f sz dz x m n = 6) := by
                show _ = _
                unfold liE
                rw [← HS.out.1, if_neg fun h2 => hq ?_]
                have := (okT_iff HS.out.2.1).1 h2 t0 hcr
                rwa [HLG.out] at this
              rw [hsix] at t0' ⊢
              have HR : Hid (Abx w2 (w.heap.size + 1) (.bool false) (.slice none 0 0) (.slice none 0 0) ∧ Below w.heap.size w w2) := ⟨H2.out.2.1, H2.out.2.2.2.2.2.2⟩
              have r0 := HR.out.1.c0
              have r1 := HR.out.1.c1
              have r2 := HR.out.1.c2
              have f0 := HR.out.1.fr 0
              have f1 := HR.out.1.fr 1
              have f2 := HR.out.1.fr 2
              clear hq hsix
              go_wp2_with fail
              have FF := HR.out.1.set3 (.bool false) (.slice none 0 0) (.slice none 0 0)
              have q0 := FF.c0
              have q1 := FF.c1
              have q2 := FF.c2
              exact bodyPost_ret (v := .tuple #[.agg #[.bool false, .slice none 0 0, .slice none 0 0], .int .i64 6]) (by simp [results, Tryd.results27, go_sem, q0, q1, q2]) rfl (ur12_no HX.out (by decide) (bel_set3 HR.out.2 (by omega) _ _ _))
          · have hn1 : (0 : Int) < (n : Int) := by omega
            have HG : Hid (liG sz dz x n t0 = lnL sz dz x t0 (i0 : Int) n) := by show _ = _; unfold liG; rw [if_neg hn0, HTT.out.2.1]
            have hmn := HF.out.2.2.2.2.2.1.resolve_left hn0
            have hn4 : n ≤ 4096 := by have := HTT.out.2.2.1; have := HTT.out.2.2.2; omega
            have HL2 : Hid (Calls Tryd.prog 19 #[.agg #[.bool false, .slice sa k sc, .slice da dz.length dc], .int .i64 (x : Nat), .slice (some ⟨bt, ot, none⟩) k tc, .int .i64 (i0 : Nat), .int .i64 (n : Nat)] w2.drew fun e w' => ∃ g gc, e = .returned (.slice g n gc) ∧ NewC w2.heap.size w' g (lnL sz dz x t0 (i0 : Int) n) gc ∧ Below w2.drew.heap.size w2.drew w') :=
              line2_any false sa sc sz da dc dz x (some ⟨bt, ot, none⟩) tc t0 i0 n k htl HF.out.2.2.2.1 hxl HF.out.2.1 HF.out.2.2.1 (fun j hj => HBK.out _ (by omega) (by omega)) (by omega) (by omega) w2.drew ((HI.out.1.below H2.out.2.2.2.2.2.2).mono H2.out.2.2.2.2.2.2.size) ((HI.out.2.1.below H2.out.2.2.2.2.2.2).mono H2.out.2.2.2.2.2.2.size) ((HTT.out.1.below HBl.out).mono HBl.out.size)
            have c20 := H2.out.1.c0
            have c21 := H2.out.1.c1
            have c22 := H2.out.1.c2
            have c2t := c3
            clear hn0 hmn
            go_wp2_with fail
            refine anyT_begin 9 (fun w' => w'.cell? ⟨w.heap.size, 0, none⟩ = some (.bool false) ∧ w'.cell? ⟨w.heap.size, 1, none⟩ = some (.slice sa k sc) ∧ w'.cell? ⟨w.heap.size, 2, none⟩ = some (.slice da dz.length dc) ∧ w'.cell? ⟨bt, ot + x, none⟩ = some (.int .i64 (i0 : Nat))) 10 #[false, false, false, false, false, false, false, false, false, false] (by kernel_rfl) rfl rfl ?_
            refine anyT_take 0 66 ?rv33 #[true, false, false, false, false, false, false, false, false, false] rfl rfl rfl (by kernel_rfl) (by kernel_rfl) (by kernel_rfl) (fun _ _ _ h => h) (by kernel_rfl) (by decide) (by kernel_rfl) ?ry33 (⟨c20, c21, c22, c2t⟩) ?rm33
            case ry33 => first | exact Or.inl ⟨by rfl, by intro w' hw'; (try dsimp only at hw'); go_simp; first | done | rfl⟩
            case rm33 =>
            simp only [Act.put, List.setIfInBounds_toArray, List.set_cons_zero, List.set_cons_succ]
            refine anyT_put 1 67 ?rv34 #[true, true, false, false, false, false, false, false, false, false] rfl rfl rfl (by kernel_rfl) (by kernel_rfl) (by kernel_rfl) (fun _ _ _ h => h) (by decide) ?ry34 (fun _ => ⟨c20, c21, c22, c2t⟩) ?rm34
            case ry34 => first | exact Or.inl ⟨by rfl, by intro w'; go_simp; first | done | rfl⟩
            case rm34 =>
            simp only [Act.put, List.setIfInBounds_toArray, List.set_cons_zero, List.set_cons_succ]
            refine anyT_put 2 68 ?rv35 #[true, true, true, false, false, false, false, false, false, false] rfl rfl rfl (by kernel_rfl) (by kernel_rfl) (by kernel_rfl) (fun _ _ _ h => h) (by decide) ?ry35 (fun _ => ⟨c20, c21, c22, c2t⟩) ?rm35
            case ry35 => first | exact Or.inl ⟨by rfl, by intro w'; go_simp; first | done | rfl⟩
            case rm35 =>
            simp only [Act.put, List.setIfInBounds_toArray, List.set_cons_zero, List.set_cons_succ]
            refine anyT_put 3 69 ?rv36 #[true, true, true, true, false, false, false, false, false, false] rfl rfl rfl (by kernel_rfl) (by kernel_rfl) (by kernel_rfl) (fun _ _ _ h => h) (by decide) ?ry36 (fun _ => ⟨c20, c21, c22, c2t⟩) ?rm36
            case ry36 => first | exact Or.inl ⟨by rfl, by intro w'; go_simp; first | done | rfl⟩
            case rm36 =>
            simp only [Act.put, List.setIfInBounds_toArray, List.set_cons_zero, List.set_cons_succ]
            refine anyT_put 4 70 ?rv37 #[true, true, true, true, true, false, false, false, false, false] rfl rfl rfl (by kernel_rfl) (by kernel_rfl) (by kernel_rfl) (fun _ _ _ h => h) (by decide) ?ry37 (fun _ => ⟨c20, c21, c22, c2t⟩) ?rm37
            case ry37 => first | exact Or.inl ⟨by rfl, by intro w'; go_simp; first | done | rfl⟩
            case rm37 =>
            simp only [Act.put, List.setIfInBounds_toArray, List.set_cons_zero, List.set_cons_succ]
            refine anyT_put 5 71 ?rv38 #[true, true, true, true, true, true, false, false, false, false] rfl rfl rfl (by kernel_rfl) (by kernel_rfl) (by kernel_rfl) (fun _ _ _ h => h) (by decide) ?ry38 (fun _ => ⟨c20, c21, c22, c2t⟩) ?rm38
            case ry38 => first | exact Or.inl ⟨by rfl, by intro w'; go_simp; first | done | rfl⟩
            case rm38 =>
            simp only [Act.put, List.setIfInBounds_toArray, List.set_cons_zero, List.set_cons_succ]
            refine anyT_take 6 72 ?rv39 #[true, true, true, true, true, true, true, false, false, false] rfl rfl rfl (by kernel_rfl) (by kernel_rfl) (by kernel_rfl) (fun _ _ _ h => h) (by kernel_rfl) (by decide) (by kernel_rfl) ?ry39 (⟨c20, c21, c22, c2t⟩) ?rm39
            case ry39 => first | exact Or.inl ⟨by rfl, by intro w' hw'; (try dsimp only at hw'); go_simp; first | done | rfl⟩
            case rm39 =>
            simp only [Act.put, List.setIfInBounds_toArray, List.set_cons_zero, List.set_cons_succ]
            refine anyT_put 7 73 ?rv40 #[true, true, true, true, true, true, true, true, false, false] rfl rfl rfl (by kernel_rfl) (by kernel_rfl) (by kernel_rfl) (fun _ _ _ h => h) (by decide) ?ry40 (fun _ => ⟨c20, c21, c22, c2t⟩) ?rm40
            case ry40 => first | exact Or.inl ⟨by rfl, by intro w'; go_simp; first | done | rfl⟩
            case rm40 =>
            simp only [Act.put, List.setIfInBounds_toArray, List.set_cons_zero, List.set_cons_succ]
            refine anyT_one 8 #[true, true, true, true, true, true, true, true, true, false] (by kernel_rfl) rfl rfl (fun K hK => ?_)
            go_simp
            go_wp2_with (go_at_call 19; refine HL2.out.mono ?_; rintro e w3 ⟨gl, glc, rfl, hNl, hBl⟩)
            have HBl : Hid (Below w2.heap.size w2 w3) := (Below.refl _ w2).drew.trans hBl
            have A3 := H2.out.1.go HBl.out
            have c3 := (HBl.out.cell (p := ⟨bt, ot + x, none⟩) (by show bt < _; omega)).trans c2t
            refine hK.out _ _ (fun _ => ⟨A3.c0, A3.c1, A3.c2, c3⟩) ?_
            clear hK K
            refine anyT_one 9 #[true, true, true, true, true, true, true, true, true, true] (by kernel_rfl) rfl rfl (fun K hK => ?_)
            go_simp
            refine hK.out _ _ (fun h => absurd h (by decide)) ?_
            clear hK K
            refine anyT_done (by kernel_rfl) ?_
            have H3 : Hid (Abx w3 w.heap.size (.bool false) (.slice sa k sc) (.slice da dz.length dc) ∧ Abx w3 (w.heap.size + 1) (.bool false) (.slice none 0 0) (.slice none 0 0) ∧ Abx w3 (w.heap.size + 2) (.bool false) (.slice (some ⟨bg, og, none⟩) k gc) v ∧ MidC (w.heap.size + 3) u.heap.size w3 (some ⟨bg, og, none⟩) S gc ∧ w3.ownsRow u.heap.size 3 1 v Q.length (Q.map (Value.int .i64)) ∧ u.heap.size ≤ w3.heap.size ∧ Below w.heap.size w w3) := ⟨H2.out.1.go HBl.out, H2.out.2.1.go HBl.out, H2.out.2.2.1.go HBl.out, H2.out.2.2.2.1.go H2.out.2.2.2.2.2.1 HBl.out, own_go H2.out.2.2.2.2.1 HBl.out, Nat.le_trans H2.out.2.2.2.2.2.1 HBl.out.size, H2.out.2.2.2.2.2.2.trans (HBl.out.mono H2.out.2.2.2.2.2.2.size)⟩
            have HN_w3 : Hid (NewC w2.heap.size w3 gl _ glc) := hNl
            have ht_w3 := HBl.out.size
            go_wp2_with fail
            obtain ⟨LL, hLL⟩ : ∃ LL, LL = lnL sz dz x t0 (i0 : Int) n := ⟨_, rfl⟩
            have hfo := folded_any f LL n (by rw [hLL, lnL_length]) gl glc (by omega) w3 (by rw [hLL]; exact HN_w3.out.ints) (by rw [hLL]; exact l64r (lnL_64 HI.out.2.2 _ _ _ _))
            have HLG : Hid (liG sz dz x n t0 = LL) := by show _ = _; rw [hLL]; exact HG.out
            refine hfo.mono ?_
            rintro e w9 ⟨rfl, hw9⟩
            obtain rfl := hw9.symm
            clear hfo hw9 hLL
            by_cases hq : fdE f LL = 0
            · have t0' : (fdE f LL != 0) = false := by simp [hq]
              have HV : Hid (fdV f LL = nth D q) := by show _ = _; rw [← HLG.out, ht0, HD.out.2.2 q hlq]
              have HO : Hid (fdE f (liG sz dz x n (cr S q)) = 0) := by show _ = _; rw [← ht0, HLG.out]; exact hq
              have HN9 : Hid ((w3.alloc (.cells #[.int .i64 (fdV f LL)] 3)).heap[w3.heap.size]? = some (.cells #[.int .i64 (fdV f LL)] 3 (0, 0))) := World.alloc_heap_new _ _
              have o2 := H3.out.2.2.1.c2
              have o3 := (H3.out.2.2.1.al (.cells #[.int .i64 (fdV f LL)] 3)).c2
              have hsW := H3.out.2.2.2.2.2.1
              clear hq
              go_wp2_with (at_builtin; refine app_list rfl _ _ rfl _ u.heap.size w3.heap.size v Q (fdV f LL) rfl rfl (H3.out.2.2.2.2.1.alloc _) HN9.out (by rw [HQ.out.1]; omega) (by simp; omega) ?_; intro g1 gc1 w5 hown1 hB5; have HO5 : Hid (Abx w5 (w.heap.size + 2) (.bool false) (.slice (some ⟨bg, og, none⟩) k gc) v) := (H3.out.2.2.1.al _).bel hB5 (by omega); have o5 := HO5.out.c2; have of5 := HO5.out.fr 2)
              have hz5 := hB5.size
              simp at hz5
              refine ⟨⟨q + 1, .slice (some ⟨g1, 0, none⟩) (Q.length + 1) gc1, by omega, by go_num, ?_, ((H3.out.1.al _).bel hB5 (by omega)).ot (by show w.heap.size ≠ w.heap.size + 2; omega) _, ((H3.out.2.1.al _).bel hB5 (by omega)).ot (by show w.heap.size + 1 ≠ w.heap.size + 2; omega) _, HO5.out.s2 _, ?_, ?_, by simp [World.setCell]; omega, ?_⟩, by simp [intOf]; omega⟩
              · rw [HQ.out.2, ← HV.out, List.length_append, List.length_singleton]
                exact ownsRow_setCell_below hown1 (by show w.heap.size + 2 < u.heap.size; omega) _
              · exact MidC.s1 ⟨((H3.out.2.2.2.1.1.al (by omega) _).bel hB5), H3.out.2.2.2.1.2⟩ (p := ⟨w.heap.size + 2, 2, none⟩) (.inl (by show w.heap.size + 2 < w.heap.size + 3; omega)) _
              · intro i hi
                by_cases e : i = q
                · rw [e]; exact HO.out
                · exact HOk.out i (by omega)
              · exact ((H3.out.2.2.2.2.2.2.alloc H3.out.2.2.2.2.2.2.size _).trans (hB5.mono (by omega))).setCell (p := ⟨w.heap.size + 2, 2, none⟩) (by show w.heap.size ≤ w.heap.size + 2; omega) _
            · have t0' : (fdE f LL != 0) = true := by simp [hq]
              have hsix := (fdE_cases HF.out.1 LL).resolve_left hq
              have HX : Hid (liE f sz dz x m n = 6) := by
                show _ = _
                unfold liE
                rw [← HS.out.1, if_neg fun h2 => hq ?_]
                have := (okT_iff HS.out.2.1).1 h2 t0 hcr
                rwa [HLG.out] at this
              rw [hsix] at t0' ⊢
              have HR : Hid (Abx w3 (w.heap.size + 1) (.bool false) (.slice none 0 0) (.slice none 0 0) ∧ Below w.heap.size w w3) := ⟨H3.out.2.1, H3.out.2.2.2.2.2.2⟩
              have r0 := HR.out.1.c0
              have r1 := HR.out.1.c1
              have r2 := HR.out.1.c2
              have f0 := HR.out.1.fr 0
              have f1 := HR.out.1.fr 1
              have f2 := HR.out.1.fr 2
              clear hq hsix
              go_wp2_with fail
              have FF := HR.out.1.set3 (.bool false) (.slice none 0 0) (.slice none 0 0)
              have q0 := FF.c0
              have q1 := FF.c1
              have q2 := FF.c2
              exact bodyPost_ret (v := .tuple #[.agg #[.bool false, .slice none 0 0, .slice none 0 0], .int .i64 6]) (by simp [results, Tryd.results27, go_sem, q0, q1, q2]) rfl (ur12_no HX.out (by decide) (bel_set3 HR.out.2 (by omega) _ _ _))
        · obtain rfl : q = N := by omega
          have HX : Hid (liE f sz dz x m n = 0) := by
            show _ = _
            unfold liE
            rw [← HS.out.1, if_pos ((okT_iff HS.out.2.1).2 fun t ht => ?_)]
            have hc := cr_place HS.out.2.1 ht
            have := hok (place S t).toNat (by rw [HS.out.2.2.1] at hc; simpa using hc.2)
            rwa [hc.1] at this
          have htt : D.take q = D := List.take_of_length_le (by rw [HD.out.2.1]; exact Nat.le_refl _)
          rw [htt] at hown
          obtain ⟨g1, gc1, rfl, hN1⟩ := own_cap hown
          have HQ : Hid (Abx wr (w.heap.size + 1) (.bool false) (.slice none 0 0) (.slice none 0 0) ∧ NewC u.heap.size wr g1 D gc1 ∧ MidC (w.heap.size + 3) u.heap.size wr (some ⟨bg, og, none⟩) S gc ∧ u.heap.size ≤ wr.heap.size ∧ Below w.heap.size w wr) := ⟨hR, hN1, hM, hsz, hB⟩
          have o0 := hO.c0
          have o1 := hO.c1
          have o2 := hO.c2
          have r0 := hR.c0
          have r1 := hR.c1
          have r2 := hR.c2
          have f0 := hR.fr 0
          have f1 := hR.fr 1
          have f2 := hR.fr 2
          clear hown htt hA hR hO hM hok hsz hB hN1
          go_wp2_with fail
          have FF := HQ.out.1.set3 (.bool false) (.slice (some ⟨bg, og, none⟩) k gc) (.slice g1 D.length gc1)
          have q0 := FF.c0
          have q1 := FF.c1
          have q2 := FF.c2
          refine bodyPost_ret (v := .tuple #[.agg #[.bool false, .slice (some ⟨bg, og, none⟩) k gc, .slice g1 D.length gc1], .int .i64 0]) (by simp [results, Tryd.results27, go_sem, q0, q1, q2]) rfl ?_
          have hX := ((HQ.out.2.2.1.1.new HQ.out.2.2.2.1).set3 (b := w.heap.size + 1) (by omega) (.bool false) (.slice (some ⟨bg, og, none⟩) k gc) (.slice g1 D.length gc1)).low (lo' := w.heap.size) (by omega)
          have hY := (HQ.out.2.1.1.set3 (b := w.heap.size + 1) (by omega) (.bool false) (.slice (some ⟨bg, og, none⟩) k gc) (.slice g1 D.length gc1)).low (lo' := w.heap.size) (by omega)
          have hU := ur12_ok (e := liE f sz dz x m n) (w := w) HX.out (S := S) (D := D) (xc := gc) (yc := gc1) HS.out.2.2.2 rfl hX hY (bel_set3 HQ.out.2.2.2.2 (b := w.heap.size + 1) (by omega) (.bool false) (.slice (some ⟨bg, og, none⟩) k gc) (.slice g1 D.length gc1))
          rw [HS.out.1] at hU
          have hDD := HD.out.1
          rw [hDD] at hU ⊢
          exact hU
end Go.Proofs.YtmbgomljofngnabDoor
