/-
  What the reference makes of an array's cells in another shape.
-/
import Derived.Test.YtmbgomljofngnaaDoorApps
import Derived.Test.YtmbgomljofngnaaDoorCycd
import Derived.Test.YtmbgomljofngnaaDoorFault
namespace Go.Proofs.YtmbgomljofngnaaDoor
open Go.RowKit
set_option linter.unusedVariables false

theorem take_len (zs : List Int) {k : Nat} (h : k ≤ zs.length) : (zs.take k).length = k := by simp; omega
theorem cyc_snoc (zs : List Int) (m : Nat) (d : Int) : cyc zs (m + 1) d = cyc zs m d ++ [cyA zs d m] := by simp [cyc, List.range_succ]
/-- Where the count round and round stands. -/
def rnd (l m : Nat) : Nat := if l = 0 then 0 else m % l
theorem rnd_lt {l m : Nat} (h : 0 < l) : rnd l m < l := by unfold rnd; rw [if_neg (by omega)]; exact Nat.mod_lt _ h
theorem mod_up {l m : Nat} (h : 0 < l) : (m + 1) % l = (m % l + 1) % l := by
  have hq := Nat.div_add_mod m l
  have e : m + 1 = l * (m / l) + (m % l + 1) := by omega
  rw [e, Nat.mul_add_mod]
theorem rnd_up {l m : Nat} (h : 0 < l) (hn : rnd l m + 1 ≠ l) : rnd l (m + 1) = rnd l m + 1 := by
  have h1 := rnd_lt (m := m) h
  unfold rnd at *
  rw [if_neg (by omega)] at h1 hn ⊢
  rw [if_neg (by omega), mod_up h, Nat.mod_eq_of_lt (by omega)]
theorem rnd_back {l m : Nat} (h : 0 < l) (hn : rnd l m + 1 = l) : rnd l (m + 1) = 0 := by
  unfold rnd at *
  rw [if_neg (by omega)] at hn ⊢
  rw [mod_up h, hn, Nat.mod_self]
theorem rnd_zero (l : Nat) : rnd l 0 = 0 := by unfold rnd; split <;> simp
theorem cyA_rnd {zs : List Int} {d : Int} {m : Nat} (h : 0 < zs.length) : cyA zs d m = nth zs (rnd zs.length m) := by unfold cyA rnd; rw [if_neg (by omega), if_neg (by omega)]
theorem cyA_none {zs : List Int} {d : Int} {m : Nat} (h : zs.length = 0) : cyA zs d m = d := by unfold cyA; rw [if_pos h]
theorem fillr_any (c : Bool) (sa : Option Addr) (sc : Nat) (sz : List Int) (da : Option Addr) (dc : Nat) (dz : List Int) (w : World) :
    Calls Tryd.prog 24 #[.agg #[.bool c, .slice sa sz.length sc, .slice da dz.length dc]] w fun e w' => e = .returned (.int .i64 (fillE c)) ∧ Below w.heap.size w w' := by
  cases c
  all_goals
    go_enter Tryd.func24, Tryd.ntmps24
    go_wp2_with fail
    go_ret
    exact ⟨rfl, (Below.refl _ w).alloc (Nat.le_refl _) _⟩
set_option maxRecDepth 100000 in
set_option maxHeartbeats 8000000 in
theorem shaped_no (a : Option Addr) (cap : Nat) (zs : List Int) (n : Nat) (c : Bool) (sa : Option Addr) (sc : Nat) (sz : List Int) (da : Option Addr) (dc : Nat) (dz : List Int) (h0 : zs.length ≤ 6) (hn4 : n ≤ 4096) (h2 : dz.length ≤ 9223372036854775807) (w : World) (hz : IsInts w.heap.size w a zs) (hd : IsInts w.heap.size w da dz) (he : errOf zs = 0) (hn : (n : Int) = prod zs) (hl : Hid (dz.length = 0)) :
    Calls Tryd.prog 10 #[.slice a zs.length cap, .agg #[.bool c, .slice sa sz.length sc, .slice da dz.length dc]] w fun e w' => ∃ xa xc ya yc md, e = .returned (.agg #[.bool c, .slice xa zs.length xc, .slice ya (cyc dz n (fillE c)).length yc]) ∧ MidInts w.heap.size md w' xa zs ∧ NewInts md w' ya (cyc dz n (fillE c)) ∧ w.heap.size ≤ md ∧ md ≤ w'.heap.size ∧ Below w.heap.size w w' := by
  have HI : Hid (IsInts w.heap.size w a zs ∧ IsInts w.heap.size w da dz) := ⟨hz, hd⟩
  have HE : Hid (errOf zs = 0 ∧ (n : Int) = prod zs) := ⟨he, hn⟩
  clear hz hd he hn
  go_enter Tryd.func10, Tryd.ntmps10
  go_wp2_with fail
  go_loopw [6] (fun i wr => ∃ (k : Nat) (v : Value), k ≤ zs.length ∧ i = .int .i64 k ∧ Abx wr w.heap.size (.bool c) (.slice sa sz.length sc) (.slice da dz.length dc) ∧ Abx wr (w.heap.size + 1) (.bool false) (.slice none 0 0) (.slice none 0 0) ∧ Abx wr (w.heap.size + 1 + 1) (.bool c) v (.slice none 0 0)
      ∧ wr.ownsRow (w.heap.size + 1 + 1 + 1) 3 1 v (zs.take k).length ((zs.take k).map (Value.int .i64)) ∧ w.heap.size + 1 + 1 + 1 ≤ wr.heap.size ∧ Below w.heap.size w wr) (fun i _ => zs.length - (intOf i).toNat)
  case atStart =>
    refine ⟨0, .slice none 0 0, Nat.zero_le _, rfl, ((Abx.new w _ _ _).al _).al _, (Abx.new1 w _ _ _ _).al _, ?_, World.ownsRow_nil _ _ _ _, by simp, (((Below.refl _ w).alloc (Nat.le_refl _) _).alloc (by simp) _).alloc (by simp; omega) _⟩
    have := Abx.new1 (w.alloc (.cells #[.bool c, .slice sa sz.length sc, .slice da dz.length dc] 25)) (.cells #[.bool false, .slice none 0 0, .slice none 0 0] 25) (.bool c) (.slice none 0 0) (.slice none 0 0)
    rwa [World.size_alloc] at this
  case round =>
    obtain ⟨k, v, hk, rfl, hP, hR, hO, hown, hsz, hB⟩ := hrel
    by_cases hlt : k < zs.length
    · obtain ⟨b, off, rfl, hb, hcell⟩ := (HI.out.1.below hB).at hlt
      have hc := hcell k hlt
      clear hcell
      have o1 := hO.c1
      have hbw : b < wr.heap.size := by have := hB.size; omega
      have HR : Hid (Abx wr w.heap.size (.bool c) (.slice sa sz.length sc) (.slice da dz.length dc) ∧ Abx wr (w.heap.size + 1) (.bool false) (.slice none 0 0) (.slice none 0 0) ∧ Abx wr (w.heap.size + 1 + 1) (.bool c) v (.slice none 0 0)) := ⟨hP, hR, hO⟩
      clear hP hR hO
      go_wp2_with fail
      refine anyT_begin 8 (fun w' => w'.cell? ⟨w.heap.size + 1 + 1, 1, none⟩ = some v ∧ w'.cell? ⟨b, off + k, none⟩ = some (.int .i64 (nth zs k))) 10 #[false, false, false, false, false, false, false, false, false, false] (by kernel_rfl) rfl rfl ?_
      refine anyT_put 0 19 ?rv0 #[true, false, false, false, false, false, false, false, false, false] rfl rfl rfl (by kernel_rfl) (by kernel_rfl) (by kernel_rfl) (fun _ _ _ h => h) (by decide) ?ry0 (fun _ => ⟨o1, hc⟩) ?rm0
      case ry0 => first | exact Or.inl ⟨by rfl, by intro w'; go_simp; first | done | rfl⟩
      case rm0 =>
      simp only [Act.put, List.setIfInBounds_toArray, List.set_cons_zero, List.set_cons_succ]
      refine anyT_take 1 20 ?rv1 #[true, true, false, false, false, false, false, false, false, false] rfl rfl rfl (by kernel_rfl) (by kernel_rfl) (by kernel_rfl) (fun _ _ _ h => h) (by kernel_rfl) (by decide) (by kernel_rfl) ?ry1 (⟨o1, hc⟩) ?rm1
      case ry1 => first | exact Or.inl ⟨by rfl, by intro w' hw'; (try dsimp only at hw'); go_simp; first | done | rfl⟩
      case rm1 =>
      simp only [Act.put, List.setIfInBounds_toArray, List.set_cons_zero, List.set_cons_succ]
      refine anyT_put 2 21 ?rv2 #[true, true, true, false, false, false, false, false, false, false] rfl rfl rfl (by kernel_rfl) (by kernel_rfl) (by kernel_rfl) (fun _ _ _ h => h) (by decide) ?ry2 (fun _ => ⟨o1, hc⟩) ?rm2
      case ry2 => first | exact Or.inl ⟨by rfl, by intro w'; go_simp; first | done | rfl⟩
      case rm2 =>
      simp only [Act.put, List.setIfInBounds_toArray, List.set_cons_zero, List.set_cons_succ]
      refine anyT_put 3 22 ?rv3 #[true, true, true, true, false, false, false, false, false, false] rfl rfl rfl (by kernel_rfl) (by kernel_rfl) (by kernel_rfl) (fun _ _ _ h => h) (by decide) ?ry3 (fun _ => ⟨o1, hc⟩) ?rm3
      case ry3 => first | exact Or.inl ⟨by rfl, by intro w'; go_simp; first | done | rfl⟩
      case rm3 =>
      simp only [Act.put, List.setIfInBounds_toArray, List.set_cons_zero, List.set_cons_succ]
      refine anyT_put 4 23 ?rv4 #[true, true, true, true, true, false, false, false, false, false] rfl rfl rfl (by kernel_rfl) (by kernel_rfl) (by kernel_rfl) (fun _ _ _ h => h) (by decide) ?ry4 (fun _ => ⟨o1, hc⟩) ?rm4
      case ry4 => first | exact Or.inl ⟨by rfl, by intro w'; go_simp; first | done | rfl⟩
      case rm4 =>
      simp only [Act.put, List.setIfInBounds_toArray, List.set_cons_zero, List.set_cons_succ]
      refine anyT_take 5 24 ?rv5 #[true, true, true, true, true, true, false, false, false, false] rfl rfl rfl (by kernel_rfl) (by kernel_rfl) (by kernel_rfl) (fun _ _ _ h => h) (by kernel_rfl) (by decide) (by kernel_rfl) ?ry5 (⟨o1, hc⟩) ?rm5
      case ry5 => first | exact Or.inl ⟨by rfl, by intro w' hw'; (try dsimp only at hw'); go_simp; first | done | rfl⟩
      case rm5 =>
      simp only [Act.put, List.setIfInBounds_toArray, List.set_cons_zero, List.set_cons_succ]
      refine anyT_one 6 #[true, true, true, true, true, true, true, false, false, false] (by kernel_rfl) rfl rfl (fun K hK => ?_)
      go_simp
      have k1 : (wr.alloc (.cells #[.int .i64 (nth zs k)] 3)).cell? ⟨w.heap.size + 1 + 1, 1, none⟩ = some v := (HR.out.2.2.al _).c1
      have k2 : (wr.alloc (.cells #[.int .i64 (nth zs k)] 3)).cell? ⟨b, off + k, none⟩ = some (.int .i64 (nth zs k)) := (World.cell?_alloc_lt wr _ ⟨b, off + k, none⟩ hbw).trans hc
      refine hK.out _ _ (fun _ => ⟨k1, k2⟩) ?_
      clear hK K
      refine anyT_one 7 #[true, true, true, true, true, true, true, true, false, false] (by kernel_rfl) rfl rfl (fun K hK => ?_)
      refine app_step 26 rfl rfl _ _ rfl _ (w.heap.size + 1 + 1 + 1) wr.heap.size v (zs.take k) (nth zs k) rfl rfl ((hown.alloc _).drew) (heap_alloc_new wr _) (by rw [take_len _ hk]; omega) (by simp; omega) ?_
      intro g gc w1 hown1 hB1
      have HO1 : Hid (Abx w1 (w.heap.size + 1 + 1) (.bool c) v (.slice none 0 0)) := (HR.out.2.2.al _).dr.bel hB1 (by omega)
      have q1 := HO1.out.c1
      have qf := HO1.out.fr 1
      have qc : w1.cell? ⟨b, off + k, none⟩ = some (.int .i64 (nth zs k)) := (hB1.cell (p := ⟨b, off + k, none⟩) (by show b < _; omega)).trans k2
      refine hK.out _ _ (fun _ => ⟨q1, qc⟩) ?_
      clear hK K
      simp only [Act.put, List.setIfInBounds_toArray, List.set_cons_zero, List.set_cons_succ]
      refine anyT_one 8 #[true, true, true, true, true, true, true, true, true, false] (by kernel_rfl) rfl rfl (fun K hK => ?_)
      go_simp
      refine hK.out _ _ (fun h => absurd h (by decide)) ?_
      clear hK K
      refine anyT_one 9 #[true, true, true, true, true, true, true, true, true, true] (by kernel_rfl) rfl rfl (fun K hK => ?_)
      go_simp
      refine hK.out _ _ (fun h => absurd h (by decide)) ?_
      clear hK K
      refine anyT_done (by kernel_rfl) ?_
      go_wp2_with fail
      rw [← take_snoc zs k hlt, take_len _ hk] at hown1
      have hz1 : w.heap.size + 1 + 1 + 1 ≤ w1.heap.size := by have := hB1.size; simp at this; omega
      refine ⟨⟨k + 1, .slice (some ⟨g, 0, none⟩) (k + 1) gc, by omega, by go_num, ?_, ?_, HO1.out.s1 _, ?_, by simpa [World.setCell] using hz1, ?_⟩, by simp [intOf]; omega⟩
      · exact ((HR.out.1.al _).dr.bel hB1 (by omega)).ot (by show w.heap.size ≠ w.heap.size + 1 + 1; omega) _
      · exact ((HR.out.2.1.al _).dr.bel hB1 (by omega)).ot (by show w.heap.size + 1 ≠ w.heap.size + 1 + 1; omega) _
      · rw [take_len _ (show k + 1 ≤ zs.length by omega)]
        exact ownsRow_setCell_below hown1 (by show w.heap.size + 1 + 1 < w.heap.size + 1 + 1 + 1; omega) _
      · exact (((hB.alloc (by omega) _).drew.trans (hB1.mono (by omega)))).setCell (p := ⟨w.heap.size + 1 + 1, 1, none⟩) (by show w.heap.size ≤ w.heap.size + 1 + 1; omega) _
    · obtain rfl : k = zs.length := by omega
      rw [List.take_length] at hown
      obtain ⟨g, gc, rfl, hN⟩ := owns_new hown
      clear hown hlt
      go_wp2_with fail
      refine (cells_any a cap zs (by omega) HE.out.1 w.heap.size wr (HI.out.1.below hB)).mono ?_
      rintro e w2 ⟨rfl, hw2⟩
      subst hw2
      rw [← HE.out.2]
      have hM := hN.mid
      clear hN
      have HS : Hid (Abx w2 w.heap.size (.bool c) (.slice sa sz.length sc) (.slice da dz.length dc) ∧ Abx w2 (w.heap.size + 1) (.bool false) (.slice none 0 0) (.slice none 0 0) ∧ Abx w2 (w.heap.size + 1 + 1) (.bool c) (.slice g zs.length gc) (.slice none 0 0)) := ⟨hP, hR, hO⟩
      clear hP hR hO
      go_wp2_with fail
      go_loopw [8, 9] (fun q i wr => ∃ (m : Nat) (v : Value), m ≤ n ∧ i = .int .i64 m ∧ q = .int .i64 (rnd dz.length m) ∧ Abx wr w.heap.size (.bool c) (.slice sa sz.length sc) (.slice da dz.length dc) ∧ Abx wr (w.heap.size + 1) (.bool false) (.slice none 0 0) (.slice none 0 0) ∧ Abx wr (w.heap.size + 1 + 1) (.bool c) (.slice g zs.length gc) v
          ∧ wr.ownsRow w2.heap.size 3 1 v (cyc dz m (fillE c)).length ((cyc dz m (fillE c)).map (Value.int .i64)) ∧ MidInts (w.heap.size + 1 + 1 + 1) w2.heap.size wr g zs ∧ w2.heap.size ≤ wr.heap.size ∧ Below w.heap.size w wr) (fun _ i _ => n - (intOf i).toNat)
      case atStart => exact ⟨0, .slice none 0 0, Nat.zero_le _, rfl, by rw [rnd_zero]; rfl, HS.out.1, HS.out.2.1, HS.out.2.2, World.ownsRow_nil _ _ _ _, hM, Nat.le_refl _, hB⟩
      case round =>
        clear hM
        obtain ⟨m, v, hm, rfl, rfl, hP, hR, hO, hown, hM, hsx, hBx⟩ := hrel
        have HR : Hid (Abx wr w.heap.size (.bool c) (.slice sa sz.length sc) (.slice da dz.length dc) ∧ Abx wr (w.heap.size + 1) (.bool false) (.slice none 0 0) (.slice none 0 0) ∧ Abx wr (w.heap.size + 1 + 1) (.bool c) (.slice g zs.length gc) v) := ⟨hP, hR, hO⟩
        have b0 := hP.c0
        have b1 := hP.c1
        have b2 := hP.c2
        have o2 := hO.c2
        by_cases hlt : m < n
        · have tl : ((dz.length : Int) == 0) = true := by rw [hl.out]; rfl
          have HV : Hid (cyc dz m (fillE c) ++ [fillE c] = cyc dz (m + 1) (fillE c)) := by show _ = _; rw [cyc_snoc, cyA_none hl.out]
          have HQ : Hid (rnd dz.length (m + 1) = 0 ∧ rnd dz.length m = 0) := by constructor <;> (unfold rnd; rw [if_pos hl.out])
          clear hP hR hO
          go_wp2_with fail
          refine anyT_begin 6 (fun w' => w'.cell? ⟨w.heap.size + 1 + 1, 2, none⟩ = some v ∧ w'.cell? ⟨w.heap.size, 0, none⟩ = some (.bool c) ∧ w'.cell? ⟨w.heap.size, 1, none⟩ = some (.slice sa sz.length sc) ∧ w'.cell? ⟨w.heap.size, 2, none⟩ = some (.slice da dz.length dc)) 8 #[false, false, false, false, false, false, false, false] (by kernel_rfl) rfl rfl ?_
          refine anyT_put 0 39 ?rv10 #[true, false, false, false, false, false, false, false] rfl rfl rfl (by kernel_rfl) (by kernel_rfl) (by kernel_rfl) (fun _ _ _ h => h) (by decide) ?ry10 (fun _ => ⟨o2, b0, b1, b2⟩) ?rm10
          case ry10 => first | exact Or.inl ⟨by rfl, by intro w'; go_simp; first | done | rfl⟩
          case rm10 =>
          simp only [Act.put, List.setIfInBounds_toArray, List.set_cons_zero, List.set_cons_succ]
          refine anyT_take 1 40 ?rv11 #[true, true, false, false, false, false, false, false] rfl rfl rfl (by kernel_rfl) (by kernel_rfl) (by kernel_rfl) (fun _ _ _ h => h) (by kernel_rfl) (by decide) (by kernel_rfl) ?ry11 (⟨o2, b0, b1, b2⟩) ?rm11
          case ry11 => first | exact Or.inl ⟨by rfl, by intro w' hw'; (try dsimp only at hw'); go_simp; first | done | rfl⟩
          case rm11 =>
          simp only [Act.put, List.setIfInBounds_toArray, List.set_cons_zero, List.set_cons_succ]
          refine anyT_take 2 41 ?rv12 #[true, true, true, false, false, false, false, false] rfl rfl rfl (by kernel_rfl) (by kernel_rfl) (by kernel_rfl) (fun _ _ _ h => h) (by kernel_rfl) (by decide) (by kernel_rfl) ?ry12 (⟨o2, b0, b1, b2⟩) ?rm12
          case ry12 => first | exact Or.inl ⟨by rfl, by intro w' hw'; (try dsimp only at hw'); go_simp; first | done | rfl⟩
          case rm12 =>
          simp only [Act.put, List.setIfInBounds_toArray, List.set_cons_zero, List.set_cons_succ]
          refine anyT_one 3 #[true, true, true, true, false, false, false, false] (by kernel_rfl) rfl rfl (fun K hK => ?_)
          go_simp
          go_wp2_with (go_at_call 24; refine (fillr_any c sa sc sz da dc dz wr.drew).mono ?_; rintro e w3 ⟨rfl, hB3⟩)
          have P3 := HR.out.1.dr.go hB3
          have O3 := HR.out.2.2.dr.go hB3
          have own3 := own_go hown.drew hB3
          refine hK.out _ _ (fun _ => ⟨O3.c2, P3.c0, P3.c1, P3.c2⟩) ?_
          clear hK K
          refine anyT_one 4 #[true, true, true, true, true, false, false, false] (by kernel_rfl) rfl rfl (fun K hK => ?_)
          go_simp
          have P4 := P3.al (.cells #[.int .i64 (fillE c)] 3)
          have O4 := O3.al (.cells #[.int .i64 (fillE c)] 3)
          refine hK.out _ _ (fun _ => ⟨O4.c2, P4.c0, P4.c1, P4.c2⟩) ?_
          clear hK K
          refine anyT_one 5 #[true, true, true, true, true, true, false, false] (by kernel_rfl) rfl rfl (fun K hK => ?_)
          refine app_step 44 rfl rfl _ _ rfl _ w2.heap.size w3.heap.size v (cyc dz m (fillE c)) (fillE c) rfl rfl (own3.alloc _) (heap_alloc_new w3 _) (by rw [cyc_length]; omega) (by have := hB3.size; simp at this; simp; omega) ?_
          intro g1 gc1 w1 hown1 hB1
          have P5 := P4.bel hB1 (by omega)
          have HO1 : Hid (Abx w1 (w.heap.size + 1 + 1) (.bool c) (.slice g zs.length gc) v) := O4.bel hB1 (by omega)
          have qf := HO1.out.fr 2
          have q2 := HO1.out.c2
          refine hK.out _ _ (fun _ => ⟨HO1.out.c2, P5.c0, P5.c1, P5.c2⟩) ?_
          clear hK K
          simp only [Act.put, List.setIfInBounds_toArray, List.set_cons_zero, List.set_cons_succ]
          refine anyT_one 6 #[true, true, true, true, true, true, true, false] (by kernel_rfl) rfl rfl (fun K hK => ?_)
          go_simp
          refine hK.out _ _ (fun h => absurd h (by decide)) ?_
          clear hK K
          refine anyT_one 7 #[true, true, true, true, true, true, true, true] (by kernel_rfl) rfl rfl (fun K hK => ?_)
          go_simp
          refine hK.out _ _ (fun h => absurd h (by decide)) ?_
          clear hK K
          refine anyT_done (by kernel_rfl) ?_
          go_wp2_with fail
          rw [HV.out] at hown1
          rw [cyc_length] at hown1 ⊢
          have hz3 : wr.heap.size ≤ w3.heap.size := by have := hB3.size; simpa using this
          have hb1 := hB1.size
          simp at hb1
          refine ⟨⟨m + 1, .slice (some ⟨g1, 0, none⟩) (m + 1) gc1, by omega, by go_num, by rw [HQ.out.1, HQ.out.2], ?_, ?_, ?_, ?_, ?_, ?_, ?_⟩, by simp [intOf]; omega⟩
          · exact P5.ot (by show w.heap.size ≠ w.heap.size + 1 + 1; omega) _
          · exact (((HR.out.2.1.dr.go hB3).al _).bel hB1 (by omega)).ot (by show w.heap.size + 1 ≠ w.heap.size + 1 + 1; omega) _
          · exact HO1.out.s2 _
          · rw [cyc_length]
            exact ownsRow_setCell_below hown1 (by show w.heap.size + 1 + 1 < w2.heap.size; omega) _
          · exact ((((hM.bel (hB3.mono (by simpa using hsx))).bel ((Below.refl _ w3).alloc (by omega) _)).bel hB1)).set (by show w.heap.size + 1 + 1 < w.heap.size + 1 + 1 + 1; omega) _
          · simp [World.setCell]; omega
          · exact (((hBx.drew.trans (hB3.mono (by simpa using hBx.size))).alloc (by have := hBx.size; omega) _).trans (hB1.mono (by have := hB.size; omega))).setCell (p := ⟨w.heap.size + 1 + 1, 2, none⟩) (by show w.heap.size ≤ w.heap.size + 1 + 1; omega) _
        · obtain rfl : m = n := by omega
          obtain ⟨g1, gc1, rfl, hN1⟩ := owns_new hown
          have o0 := hO.c0
          have o1 := hO.c1
          have o2 := hO.c2
          have r0 := hR.c0
          have r1 := hR.c1
          have r2 := hR.c2
          have f0 := hR.fr 0
          have f1 := hR.fr 1
          have f2 := hR.fr 2
          have hs2 := hB.size
          clear hown hR hP
          go_wp2_with fail
          have F := HR.out.2.1.set3 (.bool c) (.slice g zs.length gc) (.slice g1 (cyc dz m (fillE c)).length gc1)
          refine bodyPost_ret (v := .agg #[.bool c, .slice g zs.length gc, .slice g1 (cyc dz m (fillE c)).length gc1]) ?_ rfl ⟨g, gc, g1, gc1, w2.heap.size, rfl, ?_, ?_, by omega, by rw [size_set3]; exact hsx, bel_set3 hBx (by omega) _ _ _⟩
          · exact results_cell_row rfl _ _ (w.heap.size + 1) 25 _ (0, 0) _ rfl F Tryd.underlying25 rfl (by kernel_rfl)
          · exact (hM.set3 (by omega) _ _ _).low (by omega)
          · exact hN1.set3 (by omega) _ _ _
set_option maxRecDepth 100000 in
set_option maxHeartbeats 8000000 in
theorem shaped_ne (a : Option Addr) (cap : Nat) (zs : List Int) (n : Nat) (c : Bool) (sa : Option Addr) (sc : Nat) (sz : List Int) (da : Option Addr) (dc : Nat) (dz : List Int) (h0 : zs.length ≤ 6) (hn4 : n ≤ 4096) (h2 : dz.length ≤ 9223372036854775807) (w : World) (hz : IsInts w.heap.size w a zs) (hd : IsInts w.heap.size w da dz) (he : errOf zs = 0) (hn : (n : Int) = prod zs) (hl : 0 < dz.length) :
    Calls Tryd.prog 10 #[.slice a zs.length cap, .agg #[.bool c, .slice sa sz.length sc, .slice da dz.length dc]] w fun e w' => ∃ xa xc ya yc md, e = .returned (.agg #[.bool c, .slice xa zs.length xc, .slice ya (cyc dz n (fillE c)).length yc]) ∧ MidInts w.heap.size md w' xa zs ∧ NewInts md w' ya (cyc dz n (fillE c)) ∧ w.heap.size ≤ md ∧ md ≤ w'.heap.size ∧ Below w.heap.size w w' := by
  have HI : Hid (IsInts w.heap.size w a zs ∧ IsInts w.heap.size w da dz) := ⟨hz, hd⟩
  have HE : Hid (errOf zs = 0 ∧ (n : Int) = prod zs) := ⟨he, hn⟩
  clear hz hd he hn
  go_enter Tryd.func10, Tryd.ntmps10
  go_wp2_with fail
  go_loopw [6] (fun i wr => ∃ (k : Nat) (v : Value), k ≤ zs.length ∧ i = .int .i64 k ∧ Abx wr w.heap.size (.bool c) (.slice sa sz.length sc) (.slice da dz.length dc) ∧ Abx wr (w.heap.size + 1) (.bool false) (.slice none 0 0) (.slice none 0 0) ∧ Abx wr (w.heap.size + 1 + 1) (.bool c) v (.slice none 0 0)
      ∧ wr.ownsRow (w.heap.size + 1 + 1 + 1) 3 1 v (zs.take k).length ((zs.take k).map (Value.int .i64)) ∧ w.heap.size + 1 + 1 + 1 ≤ wr.heap.size ∧ Below w.heap.size w wr) (fun i _ => zs.length - (intOf i).toNat)
  case atStart =>
    refine ⟨0, .slice none 0 0, Nat.zero_le _, rfl, ((Abx.new w _ _ _).al _).al _, (Abx.new1 w _ _ _ _).al _, ?_, World.ownsRow_nil _ _ _ _, by simp, (((Below.refl _ w).alloc (Nat.le_refl _) _).alloc (by simp) _).alloc (by simp; omega) _⟩
    have := Abx.new1 (w.alloc (.cells #[.bool c, .slice sa sz.length sc, .slice da dz.length dc] 25)) (.cells #[.bool false, .slice none 0 0, .slice none 0 0] 25) (.bool c) (.slice none 0 0) (.slice none 0 0)
    rwa [World.size_alloc] at this
  case round =>
    obtain ⟨k, v, hk, rfl, hP, hR, hO, hown, hsz, hB⟩ := hrel
    by_cases hlt : k < zs.length
    · obtain ⟨b, off, rfl, hb, hcell⟩ := (HI.out.1.below hB).at hlt
      have hc := hcell k hlt
      clear hcell
      have o1 := hO.c1
      have hbw : b < wr.heap.size := by have := hB.size; omega
      have HR : Hid (Abx wr w.heap.size (.bool c) (.slice sa sz.length sc) (.slice da dz.length dc) ∧ Abx wr (w.heap.size + 1) (.bool false) (.slice none 0 0) (.slice none 0 0) ∧ Abx wr (w.heap.size + 1 + 1) (.bool c) v (.slice none 0 0)) := ⟨hP, hR, hO⟩
      clear hP hR hO
      go_wp2_with fail
      refine anyT_begin 8 (fun w' => w'.cell? ⟨w.heap.size + 1 + 1, 1, none⟩ = some v ∧ w'.cell? ⟨b, off + k, none⟩ = some (.int .i64 (nth zs k))) 10 #[false, false, false, false, false, false, false, false, false, false] (by kernel_rfl) rfl rfl ?_
      refine anyT_put 0 19 ?rv18 #[true, false, false, false, false, false, false, false, false, false] rfl rfl rfl (by kernel_rfl) (by kernel_rfl) (by kernel_rfl) (fun _ _ _ h => h) (by decide) ?ry18 (fun _ => ⟨o1, hc⟩) ?rm18
      case ry18 => first | exact Or.inl ⟨by rfl, by intro w'; go_simp; first | done | rfl⟩
      case rm18 =>
      simp only [Act.put, List.setIfInBounds_toArray, List.set_cons_zero, List.set_cons_succ]
      refine anyT_take 1 20 ?rv19 #[true, true, false, false, false, false, false, false, false, false] rfl rfl rfl (by kernel_rfl) (by kernel_rfl) (by kernel_rfl) (fun _ _ _ h => h) (by kernel_rfl) (by decide) (by kernel_rfl) ?ry19 (⟨o1, hc⟩) ?rm19
      case ry19 => first | exact Or.inl ⟨by rfl, by intro w' hw'; (try dsimp only at hw'); go_simp; first | done | rfl⟩
      case rm19 =>
      simp only [Act.put, List.setIfInBounds_toArray, List.set_cons_zero, List.set_cons_succ]
      refine anyT_put 2 21 ?rv20 #[true, true, true, false, false, false, false, false, false, false] rfl rfl rfl (by kernel_rfl) (by kernel_rfl) (by kernel_rfl) (fun _ _ _ h => h) (by decide) ?ry20 (fun _ => ⟨o1, hc⟩) ?rm20
      case ry20 => first | exact Or.inl ⟨by rfl, by intro w'; go_simp; first | done | rfl⟩
      case rm20 =>
      simp only [Act.put, List.setIfInBounds_toArray, List.set_cons_zero, List.set_cons_succ]
      refine anyT_put 3 22 ?rv21 #[true, true, true, true, false, false, false, false, false, false] rfl rfl rfl (by kernel_rfl) (by kernel_rfl) (by kernel_rfl) (fun _ _ _ h => h) (by decide) ?ry21 (fun _ => ⟨o1, hc⟩) ?rm21
      case ry21 => first | exact Or.inl ⟨by rfl, by intro w'; go_simp; first | done | rfl⟩
      case rm21 =>
      simp only [Act.put, List.setIfInBounds_toArray, List.set_cons_zero, List.set_cons_succ]
      refine anyT_put 4 23 ?rv22 #[true, true, true, true, true, false, false, false, false, false] rfl rfl rfl (by kernel_rfl) (by kernel_rfl) (by kernel_rfl) (fun _ _ _ h => h) (by decide) ?ry22 (fun _ => ⟨o1, hc⟩) ?rm22
      case ry22 => first | exact Or.inl ⟨by rfl, by intro w'; go_simp; first | done | rfl⟩
      case rm22 =>
      simp only [Act.put, List.setIfInBounds_toArray, List.set_cons_zero, List.set_cons_succ]
      refine anyT_take 5 24 ?rv23 #[true, true, true, true, true, true, false, false, false, false] rfl rfl rfl (by kernel_rfl) (by kernel_rfl) (by kernel_rfl) (fun _ _ _ h => h) (by kernel_rfl) (by decide) (by kernel_rfl) ?ry23 (⟨o1, hc⟩) ?rm23
      case ry23 => first | exact Or.inl ⟨by rfl, by intro w' hw'; (try dsimp only at hw'); go_simp; first | done | rfl⟩
      case rm23 =>
      simp only [Act.put, List.setIfInBounds_toArray, List.set_cons_zero, List.set_cons_succ]
      refine anyT_one 6 #[true, true, true, true, true, true, true, false, false, false] (by kernel_rfl) rfl rfl (fun K hK => ?_)
      go_simp
      have k1 : (wr.alloc (.cells #[.int .i64 (nth zs k)] 3)).cell? ⟨w.heap.size + 1 + 1, 1, none⟩ = some v := (HR.out.2.2.al _).c1
      have k2 : (wr.alloc (.cells #[.int .i64 (nth zs k)] 3)).cell? ⟨b, off + k, none⟩ = some (.int .i64 (nth zs k)) := (World.cell?_alloc_lt wr _ ⟨b, off + k, none⟩ hbw).trans hc
      refine hK.out _ _ (fun _ => ⟨k1, k2⟩) ?_
      clear hK K
      refine anyT_one 7 #[true, true, true, true, true, true, true, true, false, false] (by kernel_rfl) rfl rfl (fun K hK => ?_)
      refine app_step 26 rfl rfl _ _ rfl _ (w.heap.size + 1 + 1 + 1) wr.heap.size v (zs.take k) (nth zs k) rfl rfl ((hown.alloc _).drew) (heap_alloc_new wr _) (by rw [take_len _ hk]; omega) (by simp; omega) ?_
      intro g gc w1 hown1 hB1
      have HO1 : Hid (Abx w1 (w.heap.size + 1 + 1) (.bool c) v (.slice none 0 0)) := (HR.out.2.2.al _).dr.bel hB1 (by omega)
      have q1 := HO1.out.c1
      have qf := HO1.out.fr 1
      have qc : w1.cell? ⟨b, off + k, none⟩ = some (.int .i64 (nth zs k)) := (hB1.cell (p := ⟨b, off + k, none⟩) (by show b < _; omega)).trans k2
      refine hK.out _ _ (fun _ => ⟨q1, qc⟩) ?_
      clear hK K
      simp only [Act.put, List.setIfInBounds_toArray, List.set_cons_zero, List.set_cons_succ]
      refine anyT_one 8 #[true, true, true, true, true, true, true, true, true, false] (by kernel_rfl) rfl rfl (fun K hK => ?_)
      go_simp
      refine hK.out _ _ (fun h => absurd h (by decide)) ?_
      clear hK K
      refine anyT_one 9 #[true, true, true, true, true, true, true, true, true, true] (by kernel_rfl) rfl rfl (fun K hK => ?_)
      go_simp
      refine hK.out _ _ (fun h => absurd h (by decide)) ?_
      clear hK K
      refine anyT_done (by kernel_rfl) ?_
      go_wp2_with fail
      rw [← take_snoc zs k hlt, take_len _ hk] at hown1
      have hz1 : w.heap.size + 1 + 1 + 1 ≤ w1.heap.size := by have := hB1.size; simp at this; omega
      refine ⟨⟨k + 1, .slice (some ⟨g, 0, none⟩) (k + 1) gc, by omega, by go_num, ?_, ?_, HO1.out.s1 _, ?_, by simpa [World.setCell] using hz1, ?_⟩, by simp [intOf]; omega⟩
      · exact ((HR.out.1.al _).dr.bel hB1 (by omega)).ot (by show w.heap.size ≠ w.heap.size + 1 + 1; omega) _
      · exact ((HR.out.2.1.al _).dr.bel hB1 (by omega)).ot (by show w.heap.size + 1 ≠ w.heap.size + 1 + 1; omega) _
      · rw [take_len _ (show k + 1 ≤ zs.length by omega)]
        exact ownsRow_setCell_below hown1 (by show w.heap.size + 1 + 1 < w.heap.size + 1 + 1 + 1; omega) _
      · exact (((hB.alloc (by omega) _).drew.trans (hB1.mono (by omega)))).setCell (p := ⟨w.heap.size + 1 + 1, 1, none⟩) (by show w.heap.size ≤ w.heap.size + 1 + 1; omega) _
    · obtain rfl : k = zs.length := by omega
      rw [List.take_length] at hown
      obtain ⟨g, gc, rfl, hN⟩ := owns_new hown
      clear hown hlt
      go_wp2_with fail
      refine (cells_any a cap zs (by omega) HE.out.1 w.heap.size wr (HI.out.1.below hB)).mono ?_
      rintro e w2 ⟨rfl, hw2⟩
      subst hw2
      rw [← HE.out.2]
      have hM := hN.mid
      clear hN
      have HS : Hid (Abx w2 w.heap.size (.bool c) (.slice sa sz.length sc) (.slice da dz.length dc) ∧ Abx w2 (w.heap.size + 1) (.bool false) (.slice none 0 0) (.slice none 0 0) ∧ Abx w2 (w.heap.size + 1 + 1) (.bool c) (.slice g zs.length gc) (.slice none 0 0)) := ⟨hP, hR, hO⟩
      clear hP hR hO
      go_wp2_with fail
      go_loopw [8, 9] (fun q i wr => ∃ (m : Nat) (v : Value), m ≤ n ∧ i = .int .i64 m ∧ q = .int .i64 (rnd dz.length m) ∧ Abx wr w.heap.size (.bool c) (.slice sa sz.length sc) (.slice da dz.length dc) ∧ Abx wr (w.heap.size + 1) (.bool false) (.slice none 0 0) (.slice none 0 0) ∧ Abx wr (w.heap.size + 1 + 1) (.bool c) (.slice g zs.length gc) v
          ∧ wr.ownsRow w2.heap.size 3 1 v (cyc dz m (fillE c)).length ((cyc dz m (fillE c)).map (Value.int .i64)) ∧ MidInts (w.heap.size + 1 + 1 + 1) w2.heap.size wr g zs ∧ w2.heap.size ≤ wr.heap.size ∧ Below w.heap.size w wr) (fun _ i _ => n - (intOf i).toNat)
      case atStart => exact ⟨0, .slice none 0 0, Nat.zero_le _, rfl, by rw [rnd_zero]; rfl, HS.out.1, HS.out.2.1, HS.out.2.2, World.ownsRow_nil _ _ _ _, hM, Nat.le_refl _, hB⟩
      case round =>
        clear hM
        obtain ⟨m, v, hm, rfl, rfl, hP, hR, hO, hown, hM, hsx, hBx⟩ := hrel
        have HR : Hid (Abx wr w.heap.size (.bool c) (.slice sa sz.length sc) (.slice da dz.length dc) ∧ Abx wr (w.heap.size + 1) (.bool false) (.slice none 0 0) (.slice none 0 0) ∧ Abx wr (w.heap.size + 1 + 1) (.bool c) (.slice g zs.length gc) v) := ⟨hP, hR, hO⟩
        have b0 := hP.c0
        have b1 := hP.c1
        have b2 := hP.c2
        have o2 := hO.c2
        by_cases hlt : m < n
        · have tl : ((dz.length : Int) == 0) = false := by rw [beq_eq_false_iff_ne]; omega
          have hq := rnd_lt (m := m) hl
          have HV : Hid (cyc dz m (fillE c) ++ [nth dz (rnd dz.length m)] = cyc dz (m + 1) (fillE c)) := by show _ = _; rw [cyc_snoc, cyA_rnd hl]
          obtain ⟨b, off, rfl, hb, hcell⟩ := (HI.out.2.below hBx).at hq
          have hc := hcell _ hq
          clear hcell hP hR hO
          have hbw : b < wr.heap.size := by have := hBx.size; omega
          have hbs := hB.size
          obtain ⟨q, hqe⟩ : ∃ q, q = rnd dz.length m := ⟨_, rfl⟩
          rw [← hqe] at hq hc HV ⊢
          have HQ : Hid (q = rnd dz.length m) := hqe
          clear hqe
          go_wp2_with fail
          refine anyT_begin 9 (fun w' => w'.cell? ⟨w.heap.size + 1 + 1, 2, none⟩ = some v ∧ w'.cell? ⟨w.heap.size, 2, none⟩ = some (.slice (some ⟨b, off, none⟩) dz.length dc) ∧ w'.cell? ⟨b, off + q, none⟩ = some (.int .i64 (nth dz q))) 11 #[false, false, false, false, false, false, false, false, false, false, false] (by kernel_rfl) rfl rfl ?_
          refine anyT_put 0 46 ?rv28 #[true, false, false, false, false, false, false, false, false, false, false] rfl rfl rfl (by kernel_rfl) (by kernel_rfl) (by kernel_rfl) (fun _ _ _ h => h) (by decide) ?ry28 (fun _ => ⟨o2, b2, hc⟩) ?rm28
          case ry28 => first | exact Or.inl ⟨by rfl, by intro w'; go_simp; first | done | rfl⟩
          case rm28 =>
          simp only [Act.put, List.setIfInBounds_toArray, List.set_cons_zero, List.set_cons_succ]
          refine anyT_take 1 47 ?rv29 #[true, true, false, false, false, false, false, false, false, false, false] rfl rfl rfl (by kernel_rfl) (by kernel_rfl) (by kernel_rfl) (fun _ _ _ h => h) (by kernel_rfl) (by decide) (by kernel_rfl) ?ry29 (⟨o2, b2, hc⟩) ?rm29
          case ry29 => first | exact Or.inl ⟨by rfl, by intro w' hw'; (try dsimp only at hw'); go_simp; first | done | rfl⟩
          case rm29 =>
          simp only [Act.put, List.setIfInBounds_toArray, List.set_cons_zero, List.set_cons_succ]
          refine anyT_put 2 48 ?rv30 #[true, true, true, false, false, false, false, false, false, false, false] rfl rfl rfl (by kernel_rfl) (by kernel_rfl) (by kernel_rfl) (fun _ _ _ h => h) (by decide) ?ry30 (fun _ => ⟨o2, b2, hc⟩) ?rm30
          case ry30 => first | exact Or.inl ⟨by rfl, by intro w'; go_simp; first | done | rfl⟩
          case rm30 =>
          simp only [Act.put, List.setIfInBounds_toArray, List.set_cons_zero, List.set_cons_succ]
          refine anyT_take 3 49 ?rv31 #[true, true, true, true, false, false, false, false, false, false, false] rfl rfl rfl (by kernel_rfl) (by kernel_rfl) (by kernel_rfl) (fun _ _ _ h => h) (by kernel_rfl) (by decide) (by kernel_rfl) ?ry31 (⟨o2, b2, hc⟩) ?rm31
          case ry31 => first | exact Or.inl ⟨by rfl, by intro w' hw'; (try dsimp only at hw'); go_simp; first | done | rfl⟩
          case rm31 =>
          simp only [Act.put, List.setIfInBounds_toArray, List.set_cons_zero, List.set_cons_succ]
          refine anyT_put 4 50 ?rv32 #[true, true, true, true, true, false, false, false, false, false, false] rfl rfl rfl (by kernel_rfl) (by kernel_rfl) (by kernel_rfl) (fun _ _ _ h => h) (by decide) ?ry32 (fun _ => ⟨o2, b2, hc⟩) ?rm32
          case ry32 => first | exact Or.inl ⟨by rfl, by intro w'; go_simp; first | done | rfl⟩
          case rm32 =>
          simp only [Act.put, List.setIfInBounds_toArray, List.set_cons_zero, List.set_cons_succ]
          refine anyT_put 5 51 ?rv33 #[true, true, true, true, true, true, false, false, false, false, false] rfl rfl rfl (by kernel_rfl) (by kernel_rfl) (by kernel_rfl) (fun _ _ _ h => h) (by decide) ?ry33 (fun _ => ⟨o2, b2, hc⟩) ?rm33
          case ry33 => first | exact Or.inl ⟨by rfl, by intro w'; go_simp; first | done | rfl⟩
          case rm33 =>
          simp only [Act.put, List.setIfInBounds_toArray, List.set_cons_zero, List.set_cons_succ]
          refine anyT_take 6 52 ?rv34 #[true, true, true, true, true, true, true, false, false, false, false] rfl rfl rfl (by kernel_rfl) (by kernel_rfl) (by kernel_rfl) (fun _ _ _ h => h) (by kernel_rfl) (by decide) (by kernel_rfl) ?ry34 (⟨o2, b2, hc⟩) ?rm34
          case ry34 => first | exact Or.inl ⟨by rfl, by intro w' hw'; (try dsimp only at hw'); go_simp; first | done | rfl⟩
          case rm34 =>
          simp only [Act.put, List.setIfInBounds_toArray, List.set_cons_zero, List.set_cons_succ]
          refine anyT_one 7 #[true, true, true, true, true, true, true, true, false, false, false] (by kernel_rfl) rfl rfl (fun K hK => ?_)
          go_simp
          have P4 := HR.out.1.al (.cells #[.int .i64 (nth dz q)] 3)
          have O4 := HR.out.2.2.al (.cells #[.int .i64 (nth dz q)] 3)
          have k2 : (wr.alloc (.cells #[.int .i64 (nth dz q)] 3)).cell? ⟨b, off + q, none⟩ = some (.int .i64 (nth dz q)) := (World.cell?_alloc_lt wr _ ⟨b, off + q, none⟩ hbw).trans hc
          refine hK.out _ _ (fun _ => ⟨O4.c2, P4.c2, k2⟩) ?_
          clear hK K
          refine anyT_one 8 #[true, true, true, true, true, true, true, true, true, false, false] (by kernel_rfl) rfl rfl (fun K hK => ?_)
          refine app_step 54 rfl rfl _ _ rfl _ w2.heap.size wr.heap.size v (cyc dz m (fillE c)) (nth dz q) rfl rfl ((hown.alloc _).drew) (heap_alloc_new wr _) (by rw [cyc_length]; omega) (by simp; omega) ?_
          intro g1 gc1 w1 hown1 hB1
          have P5 := P4.dr.bel hB1 (by omega)
          have HO1 : Hid (Abx w1 (w.heap.size + 1 + 1) (.bool c) (.slice g zs.length gc) v) := O4.dr.bel hB1 (by omega)
          have qf := HO1.out.fr 2
          have q2 := HO1.out.c2
          have p2 := P5.c2
          have qc : w1.cell? ⟨b, off + q, none⟩ = some (.int .i64 (nth dz q)) := (hB1.cell (p := ⟨b, off + q, none⟩) (by show b < _; omega)).trans k2
          refine hK.out _ _ (fun _ => ⟨HO1.out.c2, P5.c2, qc⟩) ?_
          clear hK K
          simp only [Act.put, List.setIfInBounds_toArray, List.set_cons_zero, List.set_cons_succ]
          refine anyT_one 9 #[true, true, true, true, true, true, true, true, true, true, false] (by kernel_rfl) rfl rfl (fun K hK => ?_)
          go_simp
          refine hK.out _ _ (fun h => absurd h (by decide)) ?_
          clear hK K
          refine anyT_one 10 #[true, true, true, true, true, true, true, true, true, true, true] (by kernel_rfl) rfl rfl (fun K hK => ?_)
          go_simp
          refine hK.out _ _ (fun h => absurd h (by decide)) ?_
          clear hK K
          refine anyT_done (by kernel_rfl) ?_
          have u2 : (w1.setCell ⟨w.heap.size + 1 + 1, 2, none⟩ (.slice (some ⟨g1, 0, none⟩) ((cyc dz m (fillE c)).length + 1) gc1)).cell? ⟨w.heap.size, 2, none⟩ = some (.slice (some ⟨b, off, none⟩) dz.length dc) := (P5.ot (by show w.heap.size ≠ w.heap.size + 1 + 1; omega) _).c2
          have hb1 := hB1.size
          simp at hb1
          have R5 := (HR.out.2.1.al (.cells #[.int .i64 (nth dz q)] 3)).dr.bel hB1 (by omega)
          have M5 := (hM.bel (((Below.refl _ wr).alloc (by omega) (.cells #[.int .i64 (nth dz q)] 3)).drew)).bel hB1
          have B5 : Below w.heap.size w w1 := ((hBx.alloc (by have := hBx.size; omega) _).drew).trans (hB1.mono (by omega))
          rw [HV.out] at hown1
          by_cases hend : q + 1 = dz.length
          · have te : (((q : Int) + 1) == (dz.length : Int)) = true := by rw [beq_iff_eq]; omega
            have HN : Hid (rnd dz.length (m + 1) = 0) := rnd_back hl (by rw [← HQ.out]; exact hend)
            go_wp2_with fail
            rw [cyc_length] at hown1 ⊢
            refine ⟨⟨m + 1, .slice (some ⟨g1, 0, none⟩) (m + 1) gc1, by omega, by go_num, by rw [HN.out]; rfl, ?_, ?_, ?_, ?_, ?_, ?_, ?_⟩, by simp [intOf]; omega⟩
            · exact P5.ot (by show w.heap.size ≠ w.heap.size + 1 + 1; omega) _
            · exact R5.ot (by show w.heap.size + 1 ≠ w.heap.size + 1 + 1; omega) _
            · exact HO1.out.s2 _
            · rw [cyc_length]
              exact ownsRow_setCell_below hown1 (by show w.heap.size + 1 + 1 < w2.heap.size; omega) _
            · exact M5.set (by show w.heap.size + 1 + 1 < w.heap.size + 1 + 1 + 1; omega) _
            · simp [World.setCell]; omega
            · exact B5.setCell (p := ⟨w.heap.size + 1 + 1, 2, none⟩) (by show w.heap.size ≤ w.heap.size + 1 + 1; omega) _
          · have te : (((q : Int) + 1) == (dz.length : Int)) = false := by rw [beq_eq_false_iff_ne]; omega
            have HN : Hid (rnd dz.length (m + 1) = q + 1) := by show _ = _; rw [HQ.out]; exact rnd_up hl (by rw [← HQ.out]; exact hend)
            go_wp2_with fail
            rw [cyc_length] at hown1 ⊢
            refine ⟨⟨m + 1, .slice (some ⟨g1, 0, none⟩) (m + 1) gc1, by omega, by go_num, by rw [HN.out]; go_num, ?_, ?_, ?_, ?_, ?_, ?_, ?_⟩, by simp [intOf]; omega⟩
            · exact P5.ot (by show w.heap.size ≠ w.heap.size + 1 + 1; omega) _
            · exact R5.ot (by show w.heap.size + 1 ≠ w.heap.size + 1 + 1; omega) _
            · exact HO1.out.s2 _
            · rw [cyc_length]
              exact ownsRow_setCell_below hown1 (by show w.heap.size + 1 + 1 < w2.heap.size; omega) _
            · exact M5.set (by show w.heap.size + 1 + 1 < w.heap.size + 1 + 1 + 1; omega) _
            · simp [World.setCell]; omega
            · exact B5.setCell (p := ⟨w.heap.size + 1 + 1, 2, none⟩) (by show w.heap.size ≤ w.heap.size + 1 + 1; omega) _
        · obtain rfl : m = n := by omega
          obtain ⟨g1, gc1, rfl, hN1⟩ := owns_new hown
          have o0 := hO.c0
          have o1 := hO.c1
          have o2 := hO.c2
          have r0 := hR.c0
          have r1 := hR.c1
          have r2 := hR.c2
          have f0 := hR.fr 0
          have f1 := hR.fr 1
          have f2 := hR.fr 2
          have hs2 := hB.size
          clear hown hR hP
          go_wp2_with fail
          have F := HR.out.2.1.set3 (.bool c) (.slice g zs.length gc) (.slice g1 (cyc dz m (fillE c)).length gc1)
          refine bodyPost_ret (v := .agg #[.bool c, .slice g zs.length gc, .slice g1 (cyc dz m (fillE c)).length gc1]) ?_ rfl ⟨g, gc, g1, gc1, w2.heap.size, rfl, ?_, ?_, by omega, by rw [size_set3]; exact hsx, bel_set3 hBx (by omega) _ _ _⟩
          · exact results_cell_row rfl _ _ (w.heap.size + 1) 25 _ (0, 0) _ rfl F Tryd.underlying25 rfl (by kernel_rfl)
          · exact (hM.set3 (by omega) _ _ _).low (by omega)
          · exact hN1.set3 (by omega) _ _ _
theorem shaped_mid (a : Option Addr) (cap : Nat) (zs : List Int) (n : Nat) (c : Bool) (sa : Option Addr) (sc : Nat) (sz : List Int) (da : Option Addr) (dc : Nat) (dz : List Int) (h0 : zs.length ≤ 6) (hn4 : n ≤ 4096) (h2 : dz.length ≤ 9223372036854775807) (w : World) (hz : IsInts w.heap.size w a zs) (hd : IsInts w.heap.size w da dz) (he : errOf zs = 0) (hn : (n : Int) = prod zs) :
    Calls Tryd.prog 10 #[.slice a zs.length cap, .agg #[.bool c, .slice sa sz.length sc, .slice da dz.length dc]] w fun e w' => ∃ xa xc ya yc md, e = .returned (.agg #[.bool c, .slice xa zs.length xc, .slice ya (cyc dz n (fillE c)).length yc]) ∧ MidInts w.heap.size md w' xa zs ∧ NewInts md w' ya (cyc dz n (fillE c)) ∧ w.heap.size ≤ md ∧ md ≤ w'.heap.size ∧ Below w.heap.size w w' := by
  by_cases hl : dz.length = 0
  · exact shaped_no a cap zs n c sa sc sz da dc dz h0 hn4 h2 w hz hd he hn hl
  · exact shaped_ne a cap zs n c sa sc sz da dc dz h0 hn4 h2 w hz hd he hn (by omega)
theorem shaped_any (a : Option Addr) (cap : Nat) (zs : List Int) (n : Nat) (c : Bool) (sa : Option Addr) (sc : Nat) (sz : List Int) (da : Option Addr) (dc : Nat) (dz : List Int) (h0 : zs.length ≤ 6) (hn4 : n ≤ 4096) (h2 : dz.length ≤ 9223372036854775807) (w : World) (hz : IsInts w.heap.size w a zs) (hd : IsInts w.heap.size w da dz) (he : errOf zs = 0) (hn : (n : Int) = prod zs) :
    Calls Tryd.prog 10 #[.slice a zs.length cap, .agg #[.bool c, .slice sa sz.length sc, .slice da dz.length dc]] w fun e w' => ∃ xa xc ya yc, e = .returned (.agg #[.bool c, .slice xa zs.length xc, .slice ya (cyc dz n (fillE c)).length yc]) ∧ NewInts w.heap.size w' xa zs ∧ NewInts w.heap.size w' ya (cyc dz n (fillE c)) ∧ Below w.heap.size w w' :=
  (shaped_mid a cap zs n c sa sc sz da dc dz h0 hn4 h2 w hz hd he hn).mono fun e w' ⟨xa, xc, ya, yc, md, h, hx, hy, l1, l2, hB⟩ => ⟨xa, xc, ya, yc, h, hx.new l2, hy.low l1, hB⟩
end Go.Proofs.YtmbgomljofngnaaDoor
