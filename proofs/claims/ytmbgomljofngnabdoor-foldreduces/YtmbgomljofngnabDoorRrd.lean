/-
  What the reference tells of Reduced.
-/
import Derived.Test.YtmbgomljofngnabDoorRln
import Derived.Test.YtmbgomljofngnabDoorFldq
import Derived.Test.YtmbgomljofngnabDoorPapp
namespace Go.Proofs.YtmbgomljofngnabDoor
open Go.RowKit
set_option linter.unusedVariables false

theorem row_goR {w w' : World} {b : Nat} {t : TypeId} {n B : Nat} {f : Nat → Value} (h : w.rowIs b t n f) (hB : Below B w w') (hb : b < B) : w'.rowIs b t n f := h.of_block (hB.block b hb)
theorem xout_take_at : ∀ (x : Nat) (s : List Int), xout x (s.take (x + 1)) = xout x (s.take x)
  | 0, [] => rfl
  | 0, a :: s => by simp [xout]
  | x + 1, [] => rfl
  | x + 1, a :: s => by rw [List.take_succ_cons, List.take_succ_cons, xout_succ, xout_succ, xout_take_at x s]
theorem xout_take_ne : ∀ (x : Nat) (s : List Int) (k : Nat), k < s.length → k ≠ x → xout x (s.take (k + 1)) = xout x (s.take k) ++ [nth s k]
  | _, [], k, h, _ => by simp at h
  | 0, a :: s, 0, _, hne => absurd rfl hne
  | 0, a :: s, k + 1, h, _ => by
    rw [List.take_succ_cons, List.take_succ_cons, xout_zero, xout_zero, nth_succ, take_snoc s k (by simpa using h)]
  | x + 1, a :: s, 0, _, _ => by simp [xout, nth]
  | x + 1, a :: s, k + 1, h, hne => by
    rw [List.take_succ_cons, List.take_succ_cons, xout_succ, xout_succ, xout_take_ne x s k (by simpa using h) (by omega), nth_succ, List.cons_append]
theorem fault_l (a : Option Addr) (cap : Nat) (zs : List Int) (n : Nat) (hn : zs.length = n) (hreach : n ≤ 9223372036854775807) (n₀ : Nat) (w : World) (hI : IsInts n₀ w a zs) :
    Calls Tryd.prog 15 #[.slice a n cap] w fun e w' => e = .returned (.int .i64 (errOf zs)) ∧ w' = w := by
  subst hn
  exact fault_any a cap zs hreach n₀ w hI
theorem coords_c (a : Option Addr) (cap : Nat) (zs : List Int) (n p : Nat) (hn : zs.length = n) (he : errOf zs = 0) (hp : (p : Int) < prod zs) (w : World) (hI : IsInts w.heap.size w a zs) :
    Calls Tryd.prog 17 #[.slice a n cap, .int .i64 (p : Int)] w fun e w' => ∃ g, e = .returned (.slice (some ⟨g, 0, none⟩) n n) ∧ w.heap.size ≤ g ∧ w'.rowIs g 3 n (fun j => .int .i64 (nth (cr zs p) j)) ∧ Below w.heap.size w w' := by
  subst hn
  exact coords_at a cap zs p he hp w hI
set_option maxRecDepth 100000 in
set_option maxHeartbeats 8000000 in
theorem reduced_any (f x : Int) (c : Bool) (sa : Option Addr) (sc : Nat) (sz : List Int) (da : Option Addr) (dc : Nat) (dz : List Int) (h1 : sz.length ≤ 9223372036854775807) (h2 : dz.length ≤ 9223372036854775807) (w : World) (hs : IsInts w.heap.size w sa sz) (hd : IsInts w.heap.size w da dz) (T : ∀ j, In64 (nth dz j)) :
    Calls Tryd.prog 6 #[.int .i64 f, .int .i64 x, .agg #[.bool c, .slice sa sz.length sc, .slice da dz.length dc]] w (UR (rdE f x c sz dz) false (rdS12 f x c sz dz) (rdD12 f x c sz dz) w) := by
  have HI : Hid (IsInts w.heap.size w sa sz ∧ IsInts w.heap.size w da dz ∧ ∀ j, In64 (nth dz j)) := ⟨hs, hd, T⟩
  have HB0 : Hid (Below w.heap.size w ((w.alloc (.cells #[.bool c, .slice sa sz.length sc, .slice da dz.length dc] 25)).alloc (.cells #[.bool false, .slice none 0 0, .slice none 0 0] 25))) := ((Below.refl _ w).alloc (Nat.le_refl _) _).alloc (by simp) _
  have pa := (Abx.new w (.bool c) (.slice sa sz.length sc) (.slice da dz.length dc)).al (.cells #[.bool false, .slice none 0 0, .slice none 0 0] 25)
  have pr := Abx.new1 w (.cells #[.bool c, .slice sa sz.length sc, .slice da dz.length dc] 25) (.bool false) (.slice none 0 0) (.slice none 0 0)
  have p0 := pa.c0
  have p1 := pa.c1
  have p2 := pa.c2
  have hC := linefault_any f x c sa sc sz da dc dz h1 h2 _ ((HI.out.1.below HB0.out).mono HB0.out.size) ((HI.out.2.1.below HB0.out).mono HB0.out.size)
  clear hs hd T
  by_cases he : lnE f x c sz dz = 0
  · rw [he] at hC
    obtain ⟨hfn, hfl, hx, hc⟩ := lnE_zero.1 he
    subst hc
    obtain ⟨xn, rfl⟩ : ∃ xn : Nat, x = (xn : Int) := ⟨x.toNat, by omega⟩
    have hxl : xn < sz.length := by omega
    have hz := (errOf_zero.1 (flawE_zero hfl).1)
    have hln := hz.2.1.nth xn
    have HH : Hid (lnE f (xn : Int) false sz dz = 0 ∧ (1 ≤ f ∧ f ≤ 16) ∧ errOf sz = 0 ∧ (dz.length : Int) = prod sz) := ⟨he, hfn, (flawE_zero hfl).1, (flawE_zero hfl).2.1⟩
    obtain ⟨L, hL⟩ : ∃ L : Nat, (L : Int) = nth sz xn := ⟨(nth sz xn).toNat, by omega⟩
    have HL : Hid ((L : Int) = nth sz xn) := hL
    have hL4 : L ≤ 4096 := by omega
    have hl6 : sz.length ≤ 6 := hz.1
    have hdl : dz.length ≤ 4096 := by have := hz.2.2; have := (flawE_zero hfl).2.1; omega
    go_enter Tryd.func6, Tryd.ntmps6
    go_wp2_with fail
    refine hC.mono ?_
    rintro e v1 ⟨rfl, hB⟩
    have HB1 : Hid (Below w.heap.size w v1) := HB0.out.trans (hB.mono HB0.out.size)
    have HP : Hid (Abx v1 w.heap.size (.bool false) (.slice sa sz.length sc) (.slice da dz.length dc)) := pa.go hB
    have HR : Hid (Abx v1 (w.heap.size + 1) (.bool false) (.slice none 0 0) (.slice none 0 0)) := pr.go hB
    obtain ⟨bs, os, rfl, hbs, hcS⟩ := (HI.out.1.below HB1.out).at hxl
    have cs1 := hcS xn hxl
    rw [← hL] at cs1
    have hvr : w.heap.size + 1 < v1.heap.size := HR.out.lt
    clear hcS hC hB pa pr p0 p1 p2 HB0 he hfl hz hln hL hfn hx
    have p1 := HP.out.c1
    have hneut := rneut_any f v1
    go_wp2_with fail
    refine hneut.mono ?_
    rintro e v9 ⟨rfl, hv9⟩
    obtain rfl := hv9.symm
    clear hneut hv9 cs1
    by_cases hbad : L = 0 ∧ neutE f ≠ 0
    · have HE : Hid (rdE f (xn : Int) false sz dz = neutE f) := by show _ = _; unfold rdE; rw [if_neg (not_not_intro HH.out.1), Int.toNat_natCast, if_pos ⟨by rw [← HL.out]; omega, hbad.2⟩]
      have HN : Hid (neutE f ≠ 0) := hbad.2
      have t1 : ((L : Int) == 0) = true := by simp [hbad.1]
      have t2 : (neutE f != 0) = true := by simp [hbad.2]
      have r0 := HR.out.c0
      have r1 := HR.out.c1
      have r2 := HR.out.c2
      have f0 := HR.out.fr 0
      have f1 := HR.out.fr 1
      have f2 := HR.out.fr 2
      clear hbad
      go_wp2_with fail
      have F := HR.out.set3 (.bool false) (.slice none 0 0) (.slice none 0 0)
      have q0 := F.c0
      have q1 := F.c1
      have q2 := F.c2
      exact bodyPost_ret (v := .tuple #[.agg #[.bool false, .slice none 0 0, .slice none 0 0], .int .i64 (neutE f)]) (by simp [results, Tryd.results6, go_sem, q0, q1, q2]) rfl (ur12_no HE.out HN.out (bel_set3 HB1.out (by omega) _ _ _))
    · have HNB : Hid (¬ (nth sz xn = 0 ∧ neutE f ≠ 0)) := fun h => hbad ⟨by have := h.1; rw [← HL.out] at this; omega, h.2⟩
      obtain ⟨tt, ht1, ht2⟩ : ∃ tt : Bool, ((L : Int) == 0) = tt ∧ (tt = true → (neutE f != 0) = false) := ⟨_, rfl, fun h => by
        have hL0 : L = 0 := by have := eq_of_beq h; omega
        simp only [bne_eq_false_iff_eq]
        exact Classical.byContradiction fun h3 => hbad ⟨hL0, h3⟩⟩
      clear hbad
      cases tt
      · go_wp2_with fail
        clear ht1 ht2
        go_loopw [10, 11] (fun v i wr => ∃ k : Nat, k ≤ sz.length ∧ i = .int .i64 k ∧ wr.ownsRow v1.heap.size 3 1 v (xout xn (sz.take k)).length ((xout xn (sz.take k)).map (Value.int .i64)) ∧ Abx wr w.heap.size (.bool false) (.slice (some ⟨bs, os, none⟩) sz.length sc) (.slice da dz.length dc) ∧ Abx wr (w.heap.size + 1) (.bool false) (.slice none 0 0) (.slice none 0 0) ∧ v1.heap.size ≤ wr.heap.size ∧ Below w.heap.size w wr) (fun _ i _ => sz.length - (intOf i).toNat)
        case atStart => exact ⟨0, Nat.zero_le _, rfl, by rw [List.take_zero, show xout xn [] = [] by simp [xout]]; exact World.ownsRow_nil _ _ _ _, HP.out, HR.out, Nat.le_refl _, HB1.out⟩
        case round =>
          obtain ⟨k, hk, rfl, hown, hA, hR, hsz, hB⟩ := hrel
          have p1' := hA.c1
          clear p1
          by_cases hlt : k < sz.length
          · by_cases hkx : k = xn
            · have tn : ((k : Int) != (xn : Int)) = false := by rw [hkx]; simp
              have HQ : Hid (wr.ownsRow v1.heap.size 3 1 u10 (xout xn (sz.take (k + 1))).length ((xout xn (sz.take (k + 1))).map (Value.int .i64)) ∧ Abx wr w.heap.size (.bool false) (.slice (some ⟨bs, os, none⟩) sz.length sc) (.slice da dz.length dc) ∧ Abx wr (w.heap.size + 1) (.bool false) (.slice none 0 0) (.slice none 0 0) ∧ Below w.heap.size w wr) := ⟨by rw [show xout xn (sz.take (k + 1)) = xout xn (sz.take k) by rw [hkx]; exact xout_take_at _ _]; exact hown, hA, hR, hB⟩
              clear hown hA hR hB hkx
              go_wp2_with fail
              exact ⟨⟨k + 1, by omega, by go_num, HQ.out.1, HQ.out.2.1, HQ.out.2.2.1, hsz, HQ.out.2.2.2⟩, by simp [intOf]; omega⟩
            · have tn : ((k : Int) != (xn : Int)) = true := by simp; omega
              obtain ⟨_, _, e1, _, hcS⟩ := (HI.out.1.below hB).at hlt
              cases e1
              have cs := hcS k hlt
              obtain ⟨T0, hT0⟩ : ∃ T0, T0 = nth sz k := ⟨_, rfl⟩
              rw [← hT0] at cs
              obtain ⟨Q, hQ⟩ : ∃ Q, Q = xout xn (sz.take k) := ⟨_, rfl⟩
              rw [← hQ] at hown
              have hQl : Q.length ≤ 6 := by rw [hQ]; unfold xout; simp; omega
              have HO : Hid (wr.ownsRow v1.heap.size 3 1 u10 Q.length (Q.map (Value.int .i64)) ∧ xout xn (sz.take (k + 1)) = Q ++ [T0] ∧ Q.length ≤ 6) := ⟨hown, by rw [hT0, hQ, xout_take_ne xn sz k hlt hkx], hQl⟩
              have HA : Hid (Abx wr w.heap.size (.bool false) (.slice (some ⟨bs, os, none⟩) sz.length sc) (.slice da dz.length dc) ∧ Abx wr (w.heap.size + 1) (.bool false) (.slice none 0 0) (.slice none 0 0) ∧ Below w.heap.size w wr) := ⟨hA, hR, hB⟩
              have HN : Hid ((wr.alloc (.cells #[.int .i64 T0] 3)).heap[wr.heap.size]? = some (.cells #[.int .i64 T0] 3 (0, 0))) := World.alloc_heap_new _ _
              clear hcS hown hA hR hB hT0 hQ hkx hQl
              go_wp2_with (at_builtin; refine app_list rfl _ _ rfl _ v1.heap.size wr.heap.size u10 Q T0 rfl rfl (HO.out.1.alloc _) HN.out (by have := HO.out.2.2; omega) (by simp; omega) ?_; intro g1 gc1 w3 hown1 hB3)
              have hz3 := hB3.size
              simp at hz3
              refine ⟨⟨k + 1, by omega, by go_num, ?_, ((HA.out.1.al _).bel hB3 (by omega)), ((HA.out.2.1.al _).bel hB3 (by omega)), by omega, (HA.out.2.2.alloc HA.out.2.2.size _).trans (hB3.mono (by omega))⟩, by simp [intOf]; omega⟩
              rw [HO.out.2.1, List.length_append, List.length_singleton]
              exact hown1
          · have hkl : k = sz.length := by omega
            subst hkl
            rw [List.take_length] at hown
            obtain ⟨Sx, hSx⟩ : ∃ Sx, Sx = xout xn sz := ⟨_, rfl⟩
            rw [← hSx] at hown
            obtain ⟨n1, hn1⟩ : ∃ n1, n1 = Sx.length := ⟨_, rfl⟩
            have hxo := xout_length (x := xn) (s := sz) hxl
            rw [← hSx] at hxo
            have hnl : n1 + 1 = sz.length := by rw [hn1]; exact hxo
            have HSx : Hid (Sx = xout xn sz ∧ n1 = Sx.length ∧ n1 + 1 = sz.length) := ⟨hSx, hn1, hnl⟩
            obtain ⟨g, gc, rfl, hN⟩ := own_cap hown
            have hM := hN.midc
            rw [← hn1]
            have hn6 : n1 ≤ 6 := by omega
            have hfault := fault_l g gc Sx n1 hn1.symm (by omega) wr.heap.size wr (hM.is (Nat.le_refl _)).1
            have HA : Hid (Abx wr w.heap.size (.bool false) (.slice (some ⟨bs, os, none⟩) sz.length sc) (.slice da dz.length dc) ∧ Abx wr (w.heap.size + 1) (.bool false) (.slice none 0 0) (.slice none 0 0) ∧ MidC v1.heap.size wr.heap.size wr g Sx gc ∧ Below w.heap.size w wr) := ⟨hA, hR, hM, hB⟩
            clear hown hN hM hA hR hB hSx hn1 hxo hlt hk hnl
            go_wp2_with fail
            refine hfault.mono ?_
            rintro e v8 ⟨rfl, hv8⟩
            obtain rfl := hv8.symm
            clear hv8 hfault
            by_cases herr : errOf Sx = 0
            · have HE : Hid (errOf Sx = 0) := herr
              rw [herr]
              have hzS := errOf_zero.1 herr
              have hSn := prod_nonneg hzS.2.1
              obtain ⟨N, hN⟩ : ∃ N : Nat, prod Sx = N := ⟨(prod Sx).toNat, by omega⟩
              have HN : Hid (prod Sx = N) := hN
              have hN4 : N ≤ 4096 := by have := hzS.2.2; omega
              obtain ⟨D, hD⟩ : ∃ D, D = rdD f sz dz xn := ⟨_, rfl⟩
              have HD : Hid (D = rdD f sz dz xn ∧ D.length = N ∧ ∀ k, k < N → nth D k = fdV f (rdL sz dz xn (cr Sx k))) := ⟨hD, by rw [hD]; unfold rdD; rw [← HSx.out.1, TA_length, hN, Int.toNat_natCast], fun k hk => by rw [hD]; unfold rdD; rw [← HSx.out.1]; exact nth_range12 (by rw [hN, Int.toNat_natCast]; exact hk)⟩
              obtain ⟨B, hBB⟩ : ∃ B, B = wr.heap.size := ⟨_, rfl⟩
              obtain ⟨u, hu⟩ : ∃ u, u = wr.alloc (.cells #[.bool false, .slice g n1 gc, .slice none 0 0] 25) := ⟨_, rfl⟩
              have hus : u.heap.size = wr.heap.size + 1 := by rw [hu]; simp
              have HU : Hid (wr.alloc (.cells #[.bool false, .slice g n1 gc, .slice none 0 0] 25) = u ∧ wr.heap.size = B) := ⟨hu.symm, hBB.symm⟩
              have HUA : Hid (Abx u w.heap.size (.bool false) (.slice (some ⟨bs, os, none⟩) sz.length sc) (.slice da dz.length dc) ∧ Abx u (w.heap.size + 1) (.bool false) (.slice none 0 0) (.slice none 0 0) ∧ Abx u B (.bool false) (.slice g n1 gc) (.slice none 0 0) ∧ MidC v1.heap.size B u g Sx gc ∧ Below w.heap.size w u) := by
                rw [hu, hBB]
                exact ⟨HA.out.1.al _, HA.out.2.1.al _, Abx.new _ _ _ _, HA.out.2.2.1.al (Nat.le_refl _) _, HA.out.2.2.2.alloc HA.out.2.2.2.size _⟩
              have hBu : B < u.heap.size := by omega
              have hvB : v1.heap.size ≤ B := by omega
              have hcells := cells_l g gc Sx n1 N HSx.out.2.1.symm hN (by omega) herr u.heap.size u (HUA.out.2.2.2.1.is (by omega)).1
              clear herr hzS hSn hN hD hBB hu hus HA hsz
              go_wp2_with fail
              rw [HU.out.1]
              refine hcells.mono ?_
              rintro e v7 ⟨rfl, hv7⟩
              obtain rfl := hv7.symm
              clear hcells hv7
              go_wp2_with fail
              rw [HU.out.2]
              go_loopw [14] (fun i wq => ∃ (q : Nat) (v : Value), q ≤ N ∧ i = .int .i64 q ∧ wq.ownsRow u.heap.size 3 1 v (D.take q).length ((D.take q).map (Value.int .i64)) ∧ Abx wq w.heap.size (.bool false) (.slice (some ⟨bs, os, none⟩) sz.length sc) (.slice da dz.length dc) ∧ Abx wq (w.heap.size + 1) (.bool false) (.slice none 0 0) (.slice none 0 0) ∧ Abx wq B (.bool false) (.slice g n1 gc) v ∧ MidC v1.heap.size B wq g Sx gc ∧ (∀ i, i < q → fdE f (rdL sz dz xn (cr Sx i)) = 0) ∧ u.heap.size ≤ wq.heap.size ∧ Below w.heap.size w wq) (fun i _ => N - (intOf i).toNat)
              case atStart => exact ⟨0, .slice none 0 0, Nat.zero_le _, rfl, World.ownsRow_nil _ _ _ _, HUA.out.1, HUA.out.2.1, HUA.out.2.2.1, HUA.out.2.2.2.1, fun i hi => absurd hi (Nat.not_lt_zero _), Nat.le_refl _, HUA.out.2.2.2.2⟩
              case round =>
                clear HUA HU
                obtain ⟨q, v, hqN, rfl, hown, hA, hR, hO, hM, hok, hsz, hB⟩ := hrel
                by_cases hlq : q < N
                · obtain ⟨t, ht⟩ : ∃ t, t = cr Sx q := ⟨_, rfl⟩
                  have hcr := (cr_fact HE.out (i := q) (by rw [HN.out]; omega)).1
                  rw [← ht] at hcr
                  have htl : t.length = n1 := by rw [insB_len hcr]; exact HSx.out.2.1.symm
                  obtain ⟨Q, hQ⟩ : ∃ Q, Q = D.take q := ⟨_, rfl⟩
                  rw [← hQ] at hown
                  have HQ : Hid (Q.length = q ∧ D.take (q + 1) = Q ++ [nth D q]) := ⟨by rw [hQ, List.length_take, HD.out.2.1]; omega, by rw [hQ, take_snoc D q (by rw [HD.out.2.1]; exact hlq)]⟩
                  have HOk : Hid (∀ i, i < q → fdE f (rdL sz dz xn (cr Sx i)) = 0) := hok
                  have H0 : Hid (Abx wr w.heap.size (.bool false) (.slice (some ⟨bs, os, none⟩) sz.length sc) (.slice da dz.length dc) ∧ Abx wr (w.heap.size + 1) (.bool false) (.slice none 0 0) (.slice none 0 0) ∧ Abx wr B (.bool false) (.slice g n1 gc) v ∧ MidC v1.heap.size B wr g Sx gc ∧ wr.ownsRow u.heap.size 3 1 v Q.length (Q.map (Value.int .i64)) ∧ u.heap.size ≤ wr.heap.size ∧ Below w.heap.size w wr) := ⟨hA, hR, hO, hM, hown, hsz, hB⟩
                  have hco := coords_c g gc Sx n1 q HSx.out.2.1.symm HE.out (by rw [HN.out]; omega) wr (hM.is (by omega)).1
                  rw [← ht] at hco
                  clear hown hA hR hO hM hok hsz hB hQ
                  go_wp2_with fail
                  refine hco.mono ?_
                  rintro e w1 ⟨g2, rfl, hg2, hr2, hB1⟩
                  have H1 : Hid (Abx w1 w.heap.size (.bool false) (.slice (some ⟨bs, os, none⟩) sz.length sc) (.slice da dz.length dc) ∧ Abx w1 (w.heap.size + 1) (.bool false) (.slice none 0 0) (.slice none 0 0) ∧ Abx w1 B (.bool false) (.slice g n1 gc) v ∧ MidC v1.heap.size B w1 g Sx gc ∧ w1.ownsRow u.heap.size 3 1 v Q.length (Q.map (Value.int .i64)) ∧ u.heap.size ≤ w1.heap.size ∧ Below w.heap.size w w1) := ⟨H0.out.1.go hB1, H0.out.2.1.go hB1, H0.out.2.2.1.go hB1, H0.out.2.2.2.1.go (by have := H0.out.2.2.2.2.2.1; omega) hB1, own_go H0.out.2.2.2.2.1 hB1, Nat.le_trans H0.out.2.2.2.2.2.1 hB1.size, H0.out.2.2.2.2.2.2.trans (hB1.mono H0.out.2.2.2.2.2.2.size)⟩
                  have hg2l := hr2.lt
                  have HG2 : Hid (w1.rowIs g2 3 n1 (fun j => .int .i64 (nth t j))) := hr2
                  have hb1u : u.heap.size ≤ w1.heap.size := H1.out.2.2.2.2.2.1
                  have hxn1 : xn ≤ n1 := by have := HSx.out.2.2; omega
                  clear hco hB1 hr2
                  have HT1 : Hid ((t.take xn).length = xn) := by show _ = _; rw [List.length_take]; omega
                  rcases Nat.lt_or_ge xn n1 with hxe | hxe
                  · have hx0 : ¬ n1 - xn = 0 := by omega
                    have hx2 : ¬ n1 = xn := by omega
                    go_wp2_with (at_builtin; first | (refine app_all rfl _ _ rfl _ w1.heap.size (.slice none 0 0) [] 0 rfl (some ⟨g2, 0, none⟩) (t.take xn) xn n1 (by rw [List.length_take]; omega) rfl rfl (World.ownsRow_nil _ _ _ _) (.inr ⟨g2, 0, rfl, hg2l, fun j hj => by rw [List.length_take] at hj; rw [nth_take _ _ _ (by omega), Nat.zero_add]; exact HG2.out.cell (by omega)⟩) (by omega) (Nat.le_refl _) ?_; intro g3 gc3 w3 ho3 hN3 hB3; simp only [Nat.zero_add, List.nil_append] at ho3 hN3 ⊢; have hz3 := hB3.size) | (refine app_list rfl _ _ rfl _ w1.heap.size w3.heap.size (.slice g3 xn gc3) (t.take xn) 0 rfl rfl (by rw [HT1.out]; exact ho3.alloc _) (World.alloc_heap_new _ _) (by rw [HT1.out]; omega) (by simp; omega) ?_; intro g4 gc4 w4 ho4 hB4; rw [HT1.out] at ho4 ⊢) | (refine app_all rfl _ _ rfl _ w1.heap.size (.slice (some ⟨g4, 0, none⟩) (xn + 1) gc4) (t.take xn ++ [0]) (xn + 1) (by rw [List.length_append, HT1.out]; rfl) (some ⟨g2, xn, none⟩) (t.drop xn) _ _ (by rw [List.length_drop, htl]) rfl rfl ho4 (.inr ⟨g2, xn, rfl, by have := hB4.size; simp at this; omega, fun j hj => by rw [List.length_drop] at hj; rw [nth_drop12]; exact (row_goR (row_goR HG2.out hB3 hg2l) ((Below.refl _ w3).alloc hz3 _ |>.trans hB4) hg2l).cell (by omega)⟩) (by omega) (by have := hB4.size; simp at this; omega) ?_; intro g5 gc5 w5 ho5 hN5 hB5; have hBa : Below w1.heap.size w1 w5 := (hB3.trans ((Below.refl _ w3).alloc hz3 _)).trans (hB4.trans hB5); have H5 : Hid (Abx w5 w.heap.size (.bool false) (.slice (some ⟨bs, os, none⟩) sz.length sc) (.slice da dz.length dc) ∧ Abx w5 (w.heap.size + 1) (.bool false) (.slice none 0 0) (.slice none 0 0) ∧ Abx w5 B (.bool false) (.slice g n1 gc) v ∧ MidC v1.heap.size B w5 g Sx gc ∧ w5.ownsRow u.heap.size 3 1 v Q.length (Q.map (Value.int .i64)) ∧ u.heap.size ≤ w5.heap.size ∧ Below w.heap.size w w5) := ⟨H1.out.1.go hBa, H1.out.2.1.go hBa, H1.out.2.2.1.go hBa, H1.out.2.2.2.1.go (by have := H1.out.2.2.2.2.2.1; omega) hBa, own_go H1.out.2.2.2.2.1 hBa, Nat.le_trans H1.out.2.2.2.2.2.1 hBa.size, H1.out.2.2.2.2.2.2.trans (hBa.mono H1.out.2.2.2.2.2.2.size)⟩; have hd4 := H5.out.1.c0; have hd5 := H5.out.1.c1; have hd6 := H5.out.1.c2))
                    have HX5 : Hid (IsInts w5.heap.size w5 g5 (xin xn 0 t)) := by
                      have h := hN5.ints.1
                      rw [List.append_assoc, List.singleton_append] at h
                      exact h
                    have hz5 := hBa.size
                    have hline := line2_any false (some ⟨bs, os, none⟩) sc sz da dc dz xn g5 gc5 (xin xn 0 t) 0 L sz.length (by rw [xin_length (by omega), htl]; exact HSx.out.2.2) rfl hxl HH.out.2.2.1 HH.out.2.2.2 (fun j hj => by
                      have h := xin_line (s := sz) hxl (t := t) (by rw [← HSx.out.1]; exact hcr) (v := (j : Int)) (by omega) (by rw [← HL.out]; omega)
                      rw [show (((0 : Nat) : Int) + (j : Int)) = (j : Int) by omega, h.1]; exact h.2) (by omega) hL4 w5 ((HI.out.1.below H5.out.2.2.2.2.2.2).mono H5.out.2.2.2.2.2.2.size) ((HI.out.2.1.below H5.out.2.2.2.2.2.2).mono H5.out.2.2.2.2.2.2.size) HX5.out
                    have HLn : Hid (Calls Tryd.prog 19 #[.agg #[.bool false, .slice (some ⟨bs, os, none⟩) sz.length sc, .slice da dz.length dc], .int .i64 (xn : Nat), .slice g5 sz.length gc5, .int .i64 0, .int .i64 (L : Nat)] w5 fun e w' => ∃ g gc, e = .returned (.slice g L gc) ∧ NewC w5.heap.size w' g (rdL sz dz xn t) gc ∧ Below w5.heap.size w5 w') := by
                      unfold rdL
                      rw [← HL.out, Int.toNat_natCast]
                      exact hline
                    clear hline ho3 hN3 hB3 ho4 hB4 ho5 hN5 hB5 hBa hz3
                    rw [show xn + 1 + (n1 - xn) = sz.length by have := HSx.out.2.2; omega]
                    refine HLn.out.mono ?_
                    rintro e w6 ⟨gl, glc, rfl, hNl, hBl⟩
                    have H6 : Hid (Abx w6 w.heap.size (.bool false) (.slice (some ⟨bs, os, none⟩) sz.length sc) (.slice da dz.length dc) ∧ Abx w6 (w.heap.size + 1) (.bool false) (.slice none 0 0) (.slice none 0 0) ∧ Abx w6 B (.bool false) (.slice g n1 gc) v ∧ MidC v1.heap.size B w6 g Sx gc ∧ w6.ownsRow u.heap.size 3 1 v Q.length (Q.map (Value.int .i64)) ∧ u.heap.size ≤ w6.heap.size ∧ Below w.heap.size w w6) := ⟨H5.out.1.go hBl, H5.out.2.1.go hBl, H5.out.2.2.1.go hBl, H5.out.2.2.2.1.go (by have := H5.out.2.2.2.2.2.1; omega) hBl, own_go H5.out.2.2.2.2.1 hBl, Nat.le_trans H5.out.2.2.2.2.2.1 hBl.size, H5.out.2.2.2.2.2.2.trans (hBl.mono H5.out.2.2.2.2.2.2.size)⟩
                    obtain ⟨LL, hLL⟩ : ∃ LL, LL = rdL sz dz xn t := ⟨_, rfl⟩
                    rw [← hLL] at hNl
                    have hfo := folded_any f LL L (by rw [hLL, rdL_length, ← HL.out, Int.toNat_natCast]) gl glc hL4 w6 hNl.ints (by rw [hLL]; exact l64r (lnL_64 HI.out.2.2 _ _ _ _))
                    have HLG : Hid (rdL sz dz xn t = LL) := hLL.symm
                    clear hNl hBl hLL hd4 hd5 hd6 HLn
                    go_wp2_with fail
                    refine hfo.mono ?_
                    rintro e w9 ⟨rfl, hw9⟩
                    obtain rfl := hw9.symm
                    clear hfo hw9
                    by_cases hq : fdE f LL = 0
                    · have t0' : (fdE f LL != 0) = false := by simp [hq]
                      have HV : Hid (fdV f LL = nth D q) := by show _ = _; rw [← HLG.out, ht, HD.out.2.2 q hlq]
                      have HO : Hid (fdE f (rdL sz dz xn (cr Sx q)) = 0) := by show _ = _; rw [← ht, HLG.out]; exact hq
                      have HN9 : Hid ((w6.alloc (.cells #[.int .i64 (fdV f LL)] 3)).heap[w6.heap.size]? = some (.cells #[.int .i64 (fdV f LL)] 3 (0, 0))) := World.alloc_heap_new _ _
                      have o2 := H6.out.2.2.1.c2
                      have o3 := (H6.out.2.2.1.al (.cells #[.int .i64 (fdV f LL)] 3)).c2
                      have hsW := H6.out.2.2.2.2.2.1
                      clear hq
                      go_wp2_with (at_builtin; refine app_list rfl _ _ rfl _ u.heap.size w6.heap.size v Q (fdV f LL) rfl rfl (H6.out.2.2.2.2.1.alloc _) HN9.out (by rw [HQ.out.1]; omega) (by simp; omega) ?_; intro g7 gc7 w7 ho7 hB7; have HO7 : Hid (Abx w7 B (.bool false) (.slice g n1 gc) v) := (H6.out.2.2.1.al _).bel hB7 (by omega); have o5 := HO7.out.c2; have of5 := HO7.out.fr 2)
                      have hz7 := hB7.size
                      simp at hz7
                      refine ⟨⟨q + 1, .slice (some ⟨g7, 0, none⟩) (Q.length + 1) gc7, by omega, by go_num, ?_, ((H6.out.1.al _).bel hB7 (by omega)).ot (by show w.heap.size ≠ B; omega) _, ((H6.out.2.1.al _).bel hB7 (by omega)).ot (by show w.heap.size + 1 ≠ B; omega) _, HO7.out.s2 _, ?_, ?_, by simp [World.setCell]; omega, ?_⟩, by simp [intOf]; omega⟩
                      · rw [HQ.out.2, ← HV.out, List.length_append, List.length_singleton]
                        exact ownsRow_setCell_below ho7 (by show B < u.heap.size; omega) _
                      · exact MidC.s1 ⟨((H6.out.2.2.2.1.1.al (by omega) _).bel (hB7.mono (by omega))), H6.out.2.2.2.1.2⟩ (p := ⟨B, 2, none⟩) (.inr (Nat.le_refl _)) _
                      · intro i hi
                        by_cases e : i = q
                        · rw [e]; exact HO.out
                        · exact HOk.out i (by omega)
                      · exact ((H6.out.2.2.2.2.2.2.alloc H6.out.2.2.2.2.2.2.size _).trans (hB7.mono (by omega))).setCell (p := ⟨B, 2, none⟩) (by show w.heap.size ≤ B; omega) _
                    · have t0' : (fdE f LL != 0) = true := by simp [hq]
                      have hsix := (fdE_cases HH.out.2.1 LL).resolve_left hq
                      have HX : Hid (rdE f (xn : Int) false sz dz = 6) := by
                        show _ = _
                        unfold rdE
                        rw [if_neg (not_not_intro HH.out.1), Int.toNat_natCast, if_neg HNB.out, ← HSx.out.1, if_neg (not_not_intro HE.out), if_neg fun h2 => hq ?_]
                        have := (okT_iff HE.out).1 h2 t hcr
                        rwa [HLG.out] at this
                      rw [hsix] at t0' ⊢
                      have HRR : Hid (Abx w6 (w.heap.size + 1) (.bool false) (.slice none 0 0) (.slice none 0 0) ∧ Below w.heap.size w w6) := ⟨H6.out.2.1, H6.out.2.2.2.2.2.2⟩
                      have r0 := HRR.out.1.c0
                      have r1 := HRR.out.1.c1
                      have r2 := HRR.out.1.c2
                      have f0 := HRR.out.1.fr 0
                      have f1 := HRR.out.1.fr 1
                      have f2 := HRR.out.1.fr 2
                      clear hq hsix
                      go_wp2_with fail
                      have FF := HRR.out.1.set3 (.bool false) (.slice none 0 0) (.slice none 0 0)
                      have q0 := FF.c0
                      have q1 := FF.c1
                      have q2 := FF.c2
                      exact bodyPost_ret (v := .tuple #[.agg #[.bool false, .slice none 0 0, .slice none 0 0], .int .i64 6]) (by simp [results, Tryd.results6, go_sem, q0, q1, q2]) rfl (ur12_no HX.out (by decide) (bel_set3 HRR.out.2 (by omega) _ _ _))
                  · replace hxe : xn = n1 := by omega
                    have hdr : t.drop xn = [] := by rw [hxe, ← htl, List.drop_length]
                    have HXE : Hid (xn = n1) := hxe
                    have hx0 : n1 - xn = 0 := by omega
                    clear hxe
                    go_wp2_with (at_builtin; first | (refine app_all rfl _ _ rfl _ w1.heap.size (.slice none 0 0) [] 0 rfl (some ⟨g2, 0, none⟩) (t.take xn) xn n1 (by rw [List.length_take]; omega) rfl rfl (World.ownsRow_nil _ _ _ _) (.inr ⟨g2, 0, rfl, hg2l, fun j hj => by rw [List.length_take] at hj; rw [nth_take _ _ _ (by omega), Nat.zero_add]; exact HG2.out.cell (by omega)⟩) (by omega) (Nat.le_refl _) ?_; intro g3 gc3 w3 ho3 hN3 hB3; simp only [Nat.zero_add, List.nil_append] at ho3 hN3 ⊢; have hz3 := hB3.size) | (refine app_list rfl _ _ rfl _ w1.heap.size w3.heap.size (.slice g3 xn gc3) (t.take xn) 0 rfl rfl (by rw [HT1.out]; exact ho3.alloc _) (World.alloc_heap_new _ _) (by rw [HT1.out]; omega) (by simp; omega) ?_; intro g4 gc4 w4 ho4 hB4; rw [HT1.out] at ho4 ⊢) | (refine app_all rfl _ _ rfl _ w1.heap.size (.slice (some ⟨g4, 0, none⟩) (xn + 1) gc4) (t.take xn ++ [0]) (xn + 1) (by rw [List.length_append, HT1.out]; rfl) _ (t.drop xn) _ _ (by rw [List.length_drop, htl]; exact hx0) rfl rfl ho4 (.inl hdr) (by omega) (by have := hB4.size; simp at this; omega) ?_; intro g5 gc5 w5 ho5 hN5 hB5; have hBa : Below w1.heap.size w1 w5 := (hB3.trans ((Below.refl _ w3).alloc hz3 _)).trans (hB4.trans hB5); have H5 : Hid (Abx w5 w.heap.size (.bool false) (.slice (some ⟨bs, os, none⟩) sz.length sc) (.slice da dz.length dc) ∧ Abx w5 (w.heap.size + 1) (.bool false) (.slice none 0 0) (.slice none 0 0) ∧ Abx w5 B (.bool false) (.slice g n1 gc) v ∧ MidC v1.heap.size B w5 g Sx gc ∧ w5.ownsRow u.heap.size 3 1 v Q.length (Q.map (Value.int .i64)) ∧ u.heap.size ≤ w5.heap.size ∧ Below w.heap.size w w5) := ⟨H1.out.1.go hBa, H1.out.2.1.go hBa, H1.out.2.2.1.go hBa, H1.out.2.2.2.1.go (by have := H1.out.2.2.2.2.2.1; omega) hBa, own_go H1.out.2.2.2.2.1 hBa, Nat.le_trans H1.out.2.2.2.2.2.1 hBa.size, H1.out.2.2.2.2.2.2.trans (hBa.mono H1.out.2.2.2.2.2.2.size)⟩; have hd4 := H5.out.1.c0; have hd5 := H5.out.1.c1; have hd6 := H5.out.1.c2))
                    have HX5 : Hid (IsInts w5.heap.size w5 g5 (xin xn 0 t)) := by
                      have h := hN5.ints.1
                      rw [List.append_assoc, List.singleton_append] at h
                      exact h
                    have hz5 := hBa.size
                    have hline := line2_any false (some ⟨bs, os, none⟩) sc sz da dc dz xn g5 gc5 (xin xn 0 t) 0 L sz.length (by rw [xin_length (by omega), htl]; exact HSx.out.2.2) rfl hxl HH.out.2.2.1 HH.out.2.2.2 (fun j hj => by
                      have h := xin_line (s := sz) hxl (t := t) (by rw [← HSx.out.1]; exact hcr) (v := (j : Int)) (by omega) (by rw [← HL.out]; omega)
                      rw [show (((0 : Nat) : Int) + (j : Int)) = (j : Int) by omega, h.1]; exact h.2) (by omega) hL4 w5 ((HI.out.1.below H5.out.2.2.2.2.2.2).mono H5.out.2.2.2.2.2.2.size) ((HI.out.2.1.below H5.out.2.2.2.2.2.2).mono H5.out.2.2.2.2.2.2.size) HX5.out
                    have HLn : Hid (Calls Tryd.prog 19 #[.agg #[.bool false, .slice (some ⟨bs, os, none⟩) sz.length sc, .slice da dz.length dc], .int .i64 (xn : Nat), .slice g5 sz.length gc5, .int .i64 0, .int .i64 (L : Nat)] w5 fun e w' => ∃ g gc, e = .returned (.slice g L gc) ∧ NewC w5.heap.size w' g (rdL sz dz xn t) gc ∧ Below w5.heap.size w5 w') := by
                      unfold rdL
                      rw [← HL.out, Int.toNat_natCast]
                      exact hline
                    clear hline ho3 hN3 hB3 ho4 hB4 ho5 hN5 hB5 hBa hz3
                    first | rw [show xn + 1 + 0 = sz.length by have := HSx.out.2.2; have := HXE.out; omega] | rw [show xn + 1 = sz.length by have := HSx.out.2.2; have := HXE.out; omega]
                    refine HLn.out.mono ?_
                    rintro e w6 ⟨gl, glc, rfl, hNl, hBl⟩
                    have H6 : Hid (Abx w6 w.heap.size (.bool false) (.slice (some ⟨bs, os, none⟩) sz.length sc) (.slice da dz.length dc) ∧ Abx w6 (w.heap.size + 1) (.bool false) (.slice none 0 0) (.slice none 0 0) ∧ Abx w6 B (.bool false) (.slice g n1 gc) v ∧ MidC v1.heap.size B w6 g Sx gc ∧ w6.ownsRow u.heap.size 3 1 v Q.length (Q.map (Value.int .i64)) ∧ u.heap.size ≤ w6.heap.size ∧ Below w.heap.size w w6) := ⟨H5.out.1.go hBl, H5.out.2.1.go hBl, H5.out.2.2.1.go hBl, H5.out.2.2.2.1.go (by have := H5.out.2.2.2.2.2.1; omega) hBl, own_go H5.out.2.2.2.2.1 hBl, Nat.le_trans H5.out.2.2.2.2.2.1 hBl.size, H5.out.2.2.2.2.2.2.trans (hBl.mono H5.out.2.2.2.2.2.2.size)⟩
                    obtain ⟨LL, hLL⟩ : ∃ LL, LL = rdL sz dz xn t := ⟨_, rfl⟩
                    rw [← hLL] at hNl
                    have hfo := folded_any f LL L (by rw [hLL, rdL_length, ← HL.out, Int.toNat_natCast]) gl glc hL4 w6 hNl.ints (by rw [hLL]; exact l64r (lnL_64 HI.out.2.2 _ _ _ _))
                    have HLG : Hid (rdL sz dz xn t = LL) := hLL.symm
                    clear hNl hBl hLL hd4 hd5 hd6 HLn
                    go_wp2_with fail
                    refine hfo.mono ?_
                    rintro e w9 ⟨rfl, hw9⟩
                    obtain rfl := hw9.symm
                    clear hfo hw9
                    by_cases hq : fdE f LL = 0
                    · have t0' : (fdE f LL != 0) = false := by simp [hq]
                      have HV : Hid (fdV f LL = nth D q) := by show _ = _; rw [← HLG.out, ht, HD.out.2.2 q hlq]
                      have HO : Hid (fdE f (rdL sz dz xn (cr Sx q)) = 0) := by show _ = _; rw [← ht, HLG.out]; exact hq
                      have HN9 : Hid ((w6.alloc (.cells #[.int .i64 (fdV f LL)] 3)).heap[w6.heap.size]? = some (.cells #[.int .i64 (fdV f LL)] 3 (0, 0))) := World.alloc_heap_new _ _
                      have o2 := H6.out.2.2.1.c2
                      have o3 := (H6.out.2.2.1.al (.cells #[.int .i64 (fdV f LL)] 3)).c2
                      have hsW := H6.out.2.2.2.2.2.1
                      clear hq
                      go_wp2_with (at_builtin; refine app_list rfl _ _ rfl _ u.heap.size w6.heap.size v Q (fdV f LL) rfl rfl (H6.out.2.2.2.2.1.alloc _) HN9.out (by rw [HQ.out.1]; omega) (by simp; omega) ?_; intro g7 gc7 w7 ho7 hB7; have HO7 : Hid (Abx w7 B (.bool false) (.slice g n1 gc) v) := (H6.out.2.2.1.al _).bel hB7 (by omega); have o5 := HO7.out.c2; have of5 := HO7.out.fr 2)
                      have hz7 := hB7.size
                      simp at hz7
                      refine ⟨⟨q + 1, .slice (some ⟨g7, 0, none⟩) (Q.length + 1) gc7, by omega, by go_num, ?_, ((H6.out.1.al _).bel hB7 (by omega)).ot (by show w.heap.size ≠ B; omega) _, ((H6.out.2.1.al _).bel hB7 (by omega)).ot (by show w.heap.size + 1 ≠ B; omega) _, HO7.out.s2 _, ?_, ?_, by simp [World.setCell]; omega, ?_⟩, by simp [intOf]; omega⟩
                      · rw [HQ.out.2, ← HV.out, List.length_append, List.length_singleton]
                        exact ownsRow_setCell_below ho7 (by show B < u.heap.size; omega) _
                      · exact MidC.s1 ⟨((H6.out.2.2.2.1.1.al (by omega) _).bel (hB7.mono (by omega))), H6.out.2.2.2.1.2⟩ (p := ⟨B, 2, none⟩) (.inr (Nat.le_refl _)) _
                      · intro i hi
                        by_cases e : i = q
                        · rw [e]; exact HO.out
                        · exact HOk.out i (by omega)
                      · exact ((H6.out.2.2.2.2.2.2.alloc H6.out.2.2.2.2.2.2.size _).trans (hB7.mono (by omega))).setCell (p := ⟨B, 2, none⟩) (by show w.heap.size ≤ B; omega) _
                    · have t0' : (fdE f LL != 0) = true := by simp [hq]
                      have hsix := (fdE_cases HH.out.2.1 LL).resolve_left hq
                      have HX : Hid (rdE f (xn : Int) false sz dz = 6) := by
                        show _ = _
                        unfold rdE
                        rw [if_neg (not_not_intro HH.out.1), Int.toNat_natCast, if_neg HNB.out, ← HSx.out.1, if_neg (not_not_intro HE.out), if_neg fun h2 => hq ?_]
                        have := (okT_iff HE.out).1 h2 t hcr
                        rwa [HLG.out] at this
                      rw [hsix] at t0' ⊢
                      have HRR : Hid (Abx w6 (w.heap.size + 1) (.bool false) (.slice none 0 0) (.slice none 0 0) ∧ Below w.heap.size w w6) := ⟨H6.out.2.1, H6.out.2.2.2.2.2.2⟩
                      have r0 := HRR.out.1.c0
                      have r1 := HRR.out.1.c1
                      have r2 := HRR.out.1.c2
                      have f0 := HRR.out.1.fr 0
                      have f1 := HRR.out.1.fr 1
                      have f2 := HRR.out.1.fr 2
                      clear hq hsix
                      go_wp2_with fail
                      have FF := HRR.out.1.set3 (.bool false) (.slice none 0 0) (.slice none 0 0)
                      have q0 := FF.c0
                      have q1 := FF.c1
                      have q2 := FF.c2
                      exact bodyPost_ret (v := .tuple #[.agg #[.bool false, .slice none 0 0, .slice none 0 0], .int .i64 6]) (by simp [results, Tryd.results6, go_sem, q0, q1, q2]) rfl (ur12_no HX.out (by decide) (bel_set3 HRR.out.2 (by omega) _ _ _))
                · obtain rfl : q = N := by omega
                  have HX : Hid (rdE f (xn : Int) false sz dz = 0) := by
                    show _ = _
                    unfold rdE
                    rw [if_neg (not_not_intro HH.out.1), Int.toNat_natCast, if_neg HNB.out, ← HSx.out.1, if_neg (not_not_intro HE.out), if_pos ((okT_iff HE.out).2 fun t ht => ?_)]
                    have hc := cr_place HE.out ht
                    have := hok (place Sx t).toNat (by rw [HN.out] at hc; simpa using hc.2)
                    rwa [hc.1] at this
                  have htt : D.take q = D := List.take_of_length_le (by rw [HD.out.2.1]; exact Nat.le_refl _)
                  rw [htt] at hown
                  obtain ⟨g1, gc1, rfl, hN1⟩ := own_cap hown
                  have HQ : Hid (Abx wr (w.heap.size + 1) (.bool false) (.slice none 0 0) (.slice none 0 0) ∧ NewC u.heap.size wr g1 D gc1 ∧ MidC v1.heap.size B wr g Sx gc ∧ u.heap.size ≤ wr.heap.size ∧ Below w.heap.size w wr) := ⟨hR, hN1, hM, hsz, hB⟩
                  have o0 := hO.c0
                  have o1 := hO.c1
                  have o2 := hO.c2
                  have r0 := hR.c0
                  have r1 := hR.c1
                  have r2 := hR.c2
                  have f0 := hR.fr 0
                  have f1 := hR.fr 1
                  have f2 := hR.fr 2
                  clear hown htt hA hR hO hM hok hsz hB hN1
                  go_wp2_with fail
                  have FF := HQ.out.1.set3 (.bool false) (.slice g n1 gc) (.slice g1 D.length gc1)
                  have q0 := FF.c0
                  have q1 := FF.c1
                  have q2 := FF.c2
                  refine bodyPost_ret (v := .tuple #[.agg #[.bool false, .slice g n1 gc, .slice g1 D.length gc1], .int .i64 0]) (by simp [results, Tryd.results6, go_sem, q0, q1, q2]) rfl ?_
                  have hX := ((HQ.out.2.2.1.1.new (by have := HQ.out.2.2.2.1; omega)).set3 (b := w.heap.size + 1) (by omega) (.bool false) (.slice g n1 gc) (.slice g1 D.length gc1)).low (lo' := w.heap.size) (by omega)
                  have hY := (HQ.out.2.1.1.set3 (b := w.heap.size + 1) (by omega) (.bool false) (.slice g n1 gc) (.slice g1 D.length gc1)).low (lo' := w.heap.size) (by omega)
                  have hU := ur12_ok (e := rdE f (xn : Int) false sz dz) (w := w) HX.out (S := Sx) (D := D) (xc := gc) (yc := gc1) HSx.out.2.1.symm rfl hX hY (bel_set3 HQ.out.2.2.2.2 (b := w.heap.size + 1) (by omega) (.bool false) (.slice g n1 gc) (.slice g1 D.length gc1))
                  unfold rdS12 rdD12
                  rw [Int.toNat_natCast, ← HSx.out.1, ← HD.out.1]
                  exact hU
            · have HE : Hid (rdE f (xn : Int) false sz dz = errOf Sx) := by show _ = _; unfold rdE; rw [if_neg (not_not_intro HH.out.1), Int.toNat_natCast, if_neg HNB.out, ← HSx.out.1, if_pos herr]
              have HNz : Hid (errOf Sx ≠ 0) := herr
              have t0 : (errOf Sx != 0) = true := by simp [herr]
              have r0 := HA.out.2.1.c0
              have r1 := HA.out.2.1.c1
              have r2 := HA.out.2.1.c2
              have f0 := HA.out.2.1.fr 0
              have f1 := HA.out.2.1.fr 1
              have f2 := HA.out.2.1.fr 2
              clear herr
              go_wp2_with fail
              have F := HA.out.2.1.set3 (.bool false) (.slice none 0 0) (.slice none 0 0)
              have q0 := F.c0
              have q1 := F.c1
              have q2 := F.c2
              exact bodyPost_ret (v := .tuple #[.agg #[.bool false, .slice none 0 0, .slice none 0 0], .int .i64 (errOf Sx)]) (by simp [results, Tryd.results6, go_sem, q0, q1, q2]) rfl (ur12_no HE.out HNz.out (bel_set3 HA.out.2.2.2 (by omega) _ _ _))
      · have t2 := ht2 rfl
        go_wp2_with fail
        clear ht1 ht2 t2
        go_loopw [10, 11] (fun v i wr => ∃ k : Nat, k ≤ sz.length ∧ i = .int .i64 k ∧ wr.ownsRow v1.heap.size 3 1 v (xout xn (sz.take k)).length ((xout xn (sz.take k)).map (Value.int .i64)) ∧ Abx wr w.heap.size (.bool false) (.slice (some ⟨bs, os, none⟩) sz.length sc) (.slice da dz.length dc) ∧ Abx wr (w.heap.size + 1) (.bool false) (.slice none 0 0) (.slice none 0 0) ∧ v1.heap.size ≤ wr.heap.size ∧ Below w.heap.size w wr) (fun _ i _ => sz.length - (intOf i).toNat)
        case atStart => exact ⟨0, Nat.zero_le _, rfl, by rw [List.take_zero, show xout xn [] = [] by simp [xout]]; exact World.ownsRow_nil _ _ _ _, HP.out, HR.out, Nat.le_refl _, HB1.out⟩
        case round =>
          obtain ⟨k, hk, rfl, hown, hA, hR, hsz, hB⟩ := hrel
          have p1' := hA.c1
          clear p1
          by_cases hlt : k < sz.length
          · by_cases hkx : k = xn
            · have tn : ((k : Int) != (xn : Int)) = false := by rw [hkx]; simp
              have HQ : Hid (wr.ownsRow v1.heap.size 3 1 u10 (xout xn (sz.take (k + 1))).length ((xout xn (sz.take (k + 1))).map (Value.int .i64)) ∧ Abx wr w.heap.size (.bool false) (.slice (some ⟨bs, os, none⟩) sz.length sc) (.slice da dz.length dc) ∧ Abx wr (w.heap.size + 1) (.bool false) (.slice none 0 0) (.slice none 0 0) ∧ Below w.heap.size w wr) := ⟨by rw [show xout xn (sz.take (k + 1)) = xout xn (sz.take k) by rw [hkx]; exact xout_take_at _ _]; exact hown, hA, hR, hB⟩
              clear hown hA hR hB hkx
              go_wp2_with fail
              exact ⟨⟨k + 1, by omega, by go_num, HQ.out.1, HQ.out.2.1, HQ.out.2.2.1, hsz, HQ.out.2.2.2⟩, by simp [intOf]; omega⟩
            · have tn : ((k : Int) != (xn : Int)) = true := by simp; omega
              obtain ⟨_, _, e1, _, hcS⟩ := (HI.out.1.below hB).at hlt
              cases e1
              have cs := hcS k hlt
              obtain ⟨T0, hT0⟩ : ∃ T0, T0 = nth sz k := ⟨_, rfl⟩
              rw [← hT0] at cs
              obtain ⟨Q, hQ⟩ : ∃ Q, Q = xout xn (sz.take k) := ⟨_, rfl⟩
              rw [← hQ] at hown
              have hQl : Q.length ≤ 6 := by rw [hQ]; unfold xout; simp; omega
              have HO : Hid (wr.ownsRow v1.heap.size 3 1 u10 Q.length (Q.map (Value.int .i64)) ∧ xout xn (sz.take (k + 1)) = Q ++ [T0] ∧ Q.length ≤ 6) := ⟨hown, by rw [hT0, hQ, xout_take_ne xn sz k hlt hkx], hQl⟩
              have HA : Hid (Abx wr w.heap.size (.bool false) (.slice (some ⟨bs, os, none⟩) sz.length sc) (.slice da dz.length dc) ∧ Abx wr (w.heap.size + 1) (.bool false) (.slice none 0 0) (.slice none 0 0) ∧ Below w.heap.size w wr) := ⟨hA, hR, hB⟩
              have HN : Hid ((wr.alloc (.cells #[.int .i64 T0] 3)).heap[wr.heap.size]? = some (.cells #[.int .i64 T0] 3 (0, 0))) := World.alloc_heap_new _ _
              clear hcS hown hA hR hB hT0 hQ hkx hQl
              go_wp2_with (at_builtin; refine app_list rfl _ _ rfl _ v1.heap.size wr.heap.size u10 Q T0 rfl rfl (HO.out.1.alloc _) HN.out (by have := HO.out.2.2; omega) (by simp; omega) ?_; intro g1 gc1 w3 hown1 hB3)
              have hz3 := hB3.size
              simp at hz3
              refine ⟨⟨k + 1, by omega, by go_num, ?_, ((HA.out.1.al _).bel hB3 (by omega)), ((HA.out.2.1.al _).bel hB3 (by omega)), by omega, (HA.out.2.2.alloc HA.out.2.2.size _).trans (hB3.mono (by omega))⟩, by simp [intOf]; omega⟩
              rw [HO.out.2.1, List.length_append, List.length_singleton]
              exact hown1
          · have hkl : k = sz.length := by omega
            subst hkl
            rw [List.take_length] at hown
            obtain ⟨Sx, hSx⟩ : ∃ Sx, Sx = xout xn sz := ⟨_, rfl⟩
            rw [← hSx] at hown
            obtain ⟨n1, hn1⟩ : ∃ n1, n1 = Sx.length := ⟨_, rfl⟩
            have hxo := xout_length (x := xn) (s := sz) hxl
            rw [← hSx] at hxo
            have hnl : n1 + 1 = sz.length := by rw [hn1]; exact hxo
            have HSx : Hid (Sx = xout xn sz ∧ n1 = Sx.length ∧ n1 + 1 = sz.length) := ⟨hSx, hn1, hnl⟩
            obtain ⟨g, gc, rfl, hN⟩ := own_cap hown
            have hM := hN.midc
            rw [← hn1]
            have hn6 : n1 ≤ 6 := by omega
            have hfault := fault_l g gc Sx n1 hn1.symm (by omega) wr.heap.size wr (hM.is (Nat.le_refl _)).1
            have HA : Hid (Abx wr w.heap.size (.bool false) (.slice (some ⟨bs, os, none⟩) sz.length sc) (.slice da dz.length dc) ∧ Abx wr (w.heap.size + 1) (.bool false) (.slice none 0 0) (.slice none 0 0) ∧ MidC v1.heap.size wr.heap.size wr g Sx gc ∧ Below w.heap.size w wr) := ⟨hA, hR, hM, hB⟩
            clear hown hN hM hA hR hB hSx hn1 hxo hlt hk hnl
            go_wp2_with fail
            refine hfault.mono ?_
            rintro e v8 ⟨rfl, hv8⟩
            obtain rfl := hv8.symm
            clear hv8 hfault
            by_cases herr : errOf Sx = 0
            · have HE : Hid (errOf Sx = 0) := herr
              rw [herr]
              have hzS := errOf_zero.1 herr
              have hSn := prod_nonneg hzS.2.1
              obtain ⟨N, hN⟩ : ∃ N : Nat, prod Sx = N := ⟨(prod Sx).toNat, by omega⟩
              have HN : Hid (prod Sx = N) := hN
              have hN4 : N ≤ 4096 := by have := hzS.2.2; omega
              obtain ⟨D, hD⟩ : ∃ D, D = rdD f sz dz xn := ⟨_, rfl⟩
              have HD : Hid (D = rdD f sz dz xn ∧ D.length = N ∧ ∀ k, k < N → nth D k = fdV f (rdL sz dz xn (cr Sx k))) := ⟨hD, by rw [hD]; unfold rdD; rw [← HSx.out.1, TA_length, hN, Int.toNat_natCast], fun k hk => by rw [hD]; unfold rdD; rw [← HSx.out.1]; exact nth_range12 (by rw [hN, Int.toNat_natCast]; exact hk)⟩
              obtain ⟨B, hBB⟩ : ∃ B, B = wr.heap.size := ⟨_, rfl⟩
              obtain ⟨u, hu⟩ : ∃ u, u = wr.alloc (.cells #[.bool false, .slice g n1 gc, .slice none 0 0] 25) := ⟨_, rfl⟩
              have hus : u.heap.size = wr.heap.size + 1 := by rw [hu]; simp
              have HU : Hid (wr.alloc (.cells #[.bool false, .slice g n1 gc, .slice none 0 0] 25) = u ∧ wr.heap.size = B) := ⟨hu.symm, hBB.symm⟩
              have HUA : Hid (Abx u w.heap.size (.bool false) (.slice (some ⟨bs, os, none⟩) sz.length sc) (.slice da dz.length dc) ∧ Abx u (w.heap.size + 1) (.bool false) (.slice none 0 0) (.slice none 0 0) ∧ Abx u B (.bool false) (.slice g n1 gc) (.slice none 0 0) ∧ MidC v1.heap.size B u g Sx gc ∧ Below w.heap.size w u) := by
                rw [hu, hBB]
                exact ⟨HA.out.1.al _, HA.out.2.1.al _, Abx.new _ _ _ _, HA.out.2.2.1.al (Nat.le_refl _) _, HA.out.2.2.2.alloc HA.out.2.2.2.size _⟩
              have hBu : B < u.heap.size := by omega
              have hvB : v1.heap.size ≤ B := by omega
              have hcells := cells_l g gc Sx n1 N HSx.out.2.1.symm hN (by omega) herr u.heap.size u (HUA.out.2.2.2.1.is (by omega)).1
              clear herr hzS hSn hN hD hBB hu hus HA hsz
              go_wp2_with fail
              rw [HU.out.1]
              refine hcells.mono ?_
              rintro e v7 ⟨rfl, hv7⟩
              obtain rfl := hv7.symm
              clear hcells hv7
              go_wp2_with fail
              rw [HU.out.2]
              go_loopw [14] (fun i wq => ∃ (q : Nat) (v : Value), q ≤ N ∧ i = .int .i64 q ∧ wq.ownsRow u.heap.size 3 1 v (D.take q).length ((D.take q).map (Value.int .i64)) ∧ Abx wq w.heap.size (.bool false) (.slice (some ⟨bs, os, none⟩) sz.length sc) (.slice da dz.length dc) ∧ Abx wq (w.heap.size + 1) (.bool false) (.slice none 0 0) (.slice none 0 0) ∧ Abx wq B (.bool false) (.slice g n1 gc) v ∧ MidC v1.heap.size B wq g Sx gc ∧ (∀ i, i < q → fdE f (rdL sz dz xn (cr Sx i)) = 0) ∧ u.heap.size ≤ wq.heap.size ∧ Below w.heap.size w wq) (fun i _ => N - (intOf i).toNat)
              case atStart => exact ⟨0, .slice none 0 0, Nat.zero_le _, rfl, World.ownsRow_nil _ _ _ _, HUA.out.1, HUA.out.2.1, HUA.out.2.2.1, HUA.out.2.2.2.1, fun i hi => absurd hi (Nat.not_lt_zero _), Nat.le_refl _, HUA.out.2.2.2.2⟩
              case round =>
                clear HUA HU
                obtain ⟨q, v, hqN, rfl, hown, hA, hR, hO, hM, hok, hsz, hB⟩ := hrel
                by_cases hlq : q < N
                · obtain ⟨t, ht⟩ : ∃ t, t = cr Sx q := ⟨_, rfl⟩
                  have hcr := (cr_fact HE.out (i := q) (by rw [HN.out]; omega)).1
                  rw [← ht] at hcr
                  have htl : t.length = n1 := by rw [insB_len hcr]; exact HSx.out.2.1.symm
                  obtain ⟨Q, hQ⟩ : ∃ Q, Q = D.take q := ⟨_, rfl⟩
                  rw [← hQ] at hown
                  have HQ : Hid (Q.length = q ∧ D.take (q + 1) = Q ++ [nth D q]) := ⟨by rw [hQ, List.length_take, HD.out.2.1]; omega, by rw [hQ, take_snoc D q (by rw [HD.out.2.1]; exact hlq)]⟩
                  have HOk : Hid (∀ i, i < q → fdE f (rdL sz dz xn (cr Sx i)) = 0) := hok
                  have H0 : Hid (Abx wr w.heap.size (.bool false) (.slice (some ⟨bs, os, none⟩) sz.length sc) (.slice da dz.length dc) ∧ Abx wr (w.heap.size + 1) (.bool false) (.slice none 0 0) (.slice none 0 0) ∧ Abx wr B (.bool false) (.slice g n1 gc) v ∧ MidC v1.heap.size B wr g Sx gc ∧ wr.ownsRow u.heap.size 3 1 v Q.length (Q.map (Value.int .i64)) ∧ u.heap.size ≤ wr.heap.size ∧ Below w.heap.size w wr) := ⟨hA, hR, hO, hM, hown, hsz, hB⟩
                  have hco := coords_c g gc Sx n1 q HSx.out.2.1.symm HE.out (by rw [HN.out]; omega) wr (hM.is (by omega)).1
                  rw [← ht] at hco
                  clear hown hA hR hO hM hok hsz hB hQ
                  go_wp2_with fail
                  refine hco.mono ?_
                  rintro e w1 ⟨g2, rfl, hg2, hr2, hB1⟩
                  have H1 : Hid (Abx w1 w.heap.size (.bool false) (.slice (some ⟨bs, os, none⟩) sz.length sc) (.slice da dz.length dc) ∧ Abx w1 (w.heap.size + 1) (.bool false) (.slice none 0 0) (.slice none 0 0) ∧ Abx w1 B (.bool false) (.slice g n1 gc) v ∧ MidC v1.heap.size B w1 g Sx gc ∧ w1.ownsRow u.heap.size 3 1 v Q.length (Q.map (Value.int .i64)) ∧ u.heap.size ≤ w1.heap.size ∧ Below w.heap.size w w1) := ⟨H0.out.1.go hB1, H0.out.2.1.go hB1, H0.out.2.2.1.go hB1, H0.out.2.2.2.1.go (by have := H0.out.2.2.2.2.2.1; omega) hB1, own_go H0.out.2.2.2.2.1 hB1, Nat.le_trans H0.out.2.2.2.2.2.1 hB1.size, H0.out.2.2.2.2.2.2.trans (hB1.mono H0.out.2.2.2.2.2.2.size)⟩
                  have hg2l := hr2.lt
                  have HG2 : Hid (w1.rowIs g2 3 n1 (fun j => .int .i64 (nth t j))) := hr2
                  have hb1u : u.heap.size ≤ w1.heap.size := H1.out.2.2.2.2.2.1
                  have hxn1 : xn ≤ n1 := by have := HSx.out.2.2; omega
                  clear hco hB1 hr2
                  have HT1 : Hid ((t.take xn).length = xn) := by show _ = _; rw [List.length_take]; omega
                  rcases Nat.lt_or_ge xn n1 with hxe | hxe
                  · have hx0 : ¬ n1 - xn = 0 := by omega
                    have hx2 : ¬ n1 = xn := by omega
                    go_wp2_with (at_builtin; first | (refine app_all rfl _ _ rfl _ w1.heap.size (.slice none 0 0) [] 0 rfl (some ⟨g2, 0, none⟩) (t.take xn) xn n1 (by rw [List.length_take]; omega) rfl rfl (World.ownsRow_nil _ _ _ _) (.inr ⟨g2, 0, rfl, hg2l, fun j hj => by rw [List.length_take] at hj; rw [nth_take _ _ _ (by omega), Nat.zero_add]; exact HG2.out.cell (by omega)⟩) (by omega) (Nat.le_refl _) ?_; intro g3 gc3 w3 ho3 hN3 hB3; simp only [Nat.zero_add, List.nil_append] at ho3 hN3 ⊢; have hz3 := hB3.size) | (refine app_list rfl _ _ rfl _ w1.heap.size w3.heap.size (.slice g3 xn gc3) (t.take xn) 0 rfl rfl (by rw [HT1.out]; exact ho3.alloc _) (World.alloc_heap_new _ _) (by rw [HT1.out]; omega) (by simp; omega) ?_; intro g4 gc4 w4 ho4 hB4; rw [HT1.out] at ho4 ⊢) | (refine app_all rfl _ _ rfl _ w1.heap.size (.slice (some ⟨g4, 0, none⟩) (xn + 1) gc4) (t.take xn ++ [0]) (xn + 1) (by rw [List.length_append, HT1.out]; rfl) (some ⟨g2, xn, none⟩) (t.drop xn) _ _ (by rw [List.length_drop, htl]) rfl rfl ho4 (.inr ⟨g2, xn, rfl, by have := hB4.size; simp at this; omega, fun j hj => by rw [List.length_drop] at hj; rw [nth_drop12]; exact (row_goR (row_goR HG2.out hB3 hg2l) ((Below.refl _ w3).alloc hz3 _ |>.trans hB4) hg2l).cell (by omega)⟩) (by omega) (by have := hB4.size; simp at this; omega) ?_; intro g5 gc5 w5 ho5 hN5 hB5; have hBa : Below w1.heap.size w1 w5 := (hB3.trans ((Below.refl _ w3).alloc hz3 _)).trans (hB4.trans hB5); have H5 : Hid (Abx w5 w.heap.size (.bool false) (.slice (some ⟨bs, os, none⟩) sz.length sc) (.slice da dz.length dc) ∧ Abx w5 (w.heap.size + 1) (.bool false) (.slice none 0 0) (.slice none 0 0) ∧ Abx w5 B (.bool false) (.slice g n1 gc) v ∧ MidC v1.heap.size B w5 g Sx gc ∧ w5.ownsRow u.heap.size 3 1 v Q.length (Q.map (Value.int .i64)) ∧ u.heap.size ≤ w5.heap.size ∧ Below w.heap.size w w5) := ⟨H1.out.1.go hBa, H1.out.2.1.go hBa, H1.out.2.2.1.go hBa, H1.out.2.2.2.1.go (by have := H1.out.2.2.2.2.2.1; omega) hBa, own_go H1.out.2.2.2.2.1 hBa, Nat.le_trans H1.out.2.2.2.2.2.1 hBa.size, H1.out.2.2.2.2.2.2.trans (hBa.mono H1.out.2.2.2.2.2.2.size)⟩; have hd4 := H5.out.1.c0; have hd5 := H5.out.1.c1; have hd6 := H5.out.1.c2))
                    have HX5 : Hid (IsInts w5.heap.size w5 g5 (xin xn 0 t)) := by
                      have h := hN5.ints.1
                      rw [List.append_assoc, List.singleton_append] at h
                      exact h
                    have hz5 := hBa.size
                    have hline := line2_any false (some ⟨bs, os, none⟩) sc sz da dc dz xn g5 gc5 (xin xn 0 t) 0 L sz.length (by rw [xin_length (by omega), htl]; exact HSx.out.2.2) rfl hxl HH.out.2.2.1 HH.out.2.2.2 (fun j hj => by
                      have h := xin_line (s := sz) hxl (t := t) (by rw [← HSx.out.1]; exact hcr) (v := (j : Int)) (by omega) (by rw [← HL.out]; omega)
                      rw [show (((0 : Nat) : Int) + (j : Int)) = (j : Int) by omega, h.1]; exact h.2) (by omega) hL4 w5 ((HI.out.1.below H5.out.2.2.2.2.2.2).mono H5.out.2.2.2.2.2.2.size) ((HI.out.2.1.below H5.out.2.2.2.2.2.2).mono H5.out.2.2.2.2.2.2.size) HX5.out
                    have HLn : Hid (Calls Tryd.prog 19 #[.agg #[.bool false, .slice (some ⟨bs, os, none⟩) sz.length sc, .slice da dz.length dc], .int .i64 (xn : Nat), .slice g5 sz.length gc5, .int .i64 0, .int .i64 (L : Nat)] w5 fun e w' => ∃ g gc, e = .returned (.slice g L gc) ∧ NewC w5.heap.size w' g (rdL sz dz xn t) gc ∧ Below w5.heap.size w5 w') := by
                      unfold rdL
                      rw [← HL.out, Int.toNat_natCast]
                      exact hline
                    clear hline ho3 hN3 hB3 ho4 hB4 ho5 hN5 hB5 hBa hz3
                    rw [show xn + 1 + (n1 - xn) = sz.length by have := HSx.out.2.2; omega]
                    refine HLn.out.mono ?_
                    rintro e w6 ⟨gl, glc, rfl, hNl, hBl⟩
                    have H6 : Hid (Abx w6 w.heap.size (.bool false) (.slice (some ⟨bs, os, none⟩) sz.length sc) (.slice da dz.length dc) ∧ Abx w6 (w.heap.size + 1) (.bool false) (.slice none 0 0) (.slice none 0 0) ∧ Abx w6 B (.bool false) (.slice g n1 gc) v ∧ MidC v1.heap.size B w6 g Sx gc ∧ w6.ownsRow u.heap.size 3 1 v Q.length (Q.map (Value.int .i64)) ∧ u.heap.size ≤ w6.heap.size ∧ Below w.heap.size w w6) := ⟨H5.out.1.go hBl, H5.out.2.1.go hBl, H5.out.2.2.1.go hBl, H5.out.2.2.2.1.go (by have := H5.out.2.2.2.2.2.1; omega) hBl, own_go H5.out.2.2.2.2.1 hBl, Nat.le_trans H5.out.2.2.2.2.2.1 hBl.size, H5.out.2.2.2.2.2.2.trans (hBl.mono H5.out.2.2.2.2.2.2.size)⟩
                    obtain ⟨LL, hLL⟩ : ∃ LL, LL = rdL sz dz xn t := ⟨_, rfl⟩
                    rw [← hLL] at hNl
                    have hfo := folded_any f LL L (by rw [hLL, rdL_length, ← HL.out, Int.toNat_natCast]) gl glc hL4 w6 hNl.ints (by rw [hLL]; exact l64r (lnL_64 HI.out.2.2 _ _ _ _))
                    have HLG : Hid (rdL sz dz xn t = LL) := hLL.symm
                    clear hNl hBl hLL hd4 hd5 hd6 HLn
                    go_wp2_with fail
                    refine hfo.mono ?_
                    rintro e w9 ⟨rfl, hw9⟩
                    obtain rfl := hw9.symm
                    clear hfo hw9
                    by_cases hq : fdE f LL = 0
                    · have t0' : (fdE f LL != 0) = false := by simp [hq]
                      have HV : Hid (fdV f LL = nth D q) := by show _ = _; rw [← HLG.out, ht, HD.out.2.2 q hlq]
                      have HO : Hid (fdE f (rdL sz dz xn (cr Sx q)) = 0) := by show _ = _; rw [← ht, HLG.out]; exact hq
                      have HN9 : Hid ((w6.alloc (.cells #[.int .i64 (fdV f LL)] 3)).heap[w6.heap.size]? = some (.cells #[.int .i64 (fdV f LL)] 3 (0, 0))) := World.alloc_heap_new _ _
                      have o2 := H6.out.2.2.1.c2
                      have o3 := (H6.out.2.2.1.al (.cells #[.int .i64 (fdV f LL)] 3)).c2
                      have hsW := H6.out.2.2.2.2.2.1
                      clear hq
                      go_wp2_with (at_builtin; refine app_list rfl _ _ rfl _ u.heap.size w6.heap.size v Q (fdV f LL) rfl rfl (H6.out.2.2.2.2.1.alloc _) HN9.out (by rw [HQ.out.1]; omega) (by simp; omega) ?_; intro g7 gc7 w7 ho7 hB7; have HO7 : Hid (Abx w7 B (.bool false) (.slice g n1 gc) v) := (H6.out.2.2.1.al _).bel hB7 (by omega); have o5 := HO7.out.c2; have of5 := HO7.out.fr 2)
                      have hz7 := hB7.size
                      simp at hz7
                      refine ⟨⟨q + 1, .slice (some ⟨g7, 0, none⟩) (Q.length + 1) gc7, by omega, by go_num, ?_, ((H6.out.1.al _).bel hB7 (by omega)).ot (by show w.heap.size ≠ B; omega) _, ((H6.out.2.1.al _).bel hB7 (by omega)).ot (by show w.heap.size + 1 ≠ B; omega) _, HO7.out.s2 _, ?_, ?_, by simp [World.setCell]; omega, ?_⟩, by simp [intOf]; omega⟩
                      · rw [HQ.out.2, ← HV.out, List.length_append, List.length_singleton]
                        exact ownsRow_setCell_below ho7 (by show B < u.heap.size; omega) _
                      · exact MidC.s1 ⟨((H6.out.2.2.2.1.1.al (by omega) _).bel (hB7.mono (by omega))), H6.out.2.2.2.1.2⟩ (p := ⟨B, 2, none⟩) (.inr (Nat.le_refl _)) _
                      · intro i hi
                        by_cases e : i = q
                        · rw [e]; exact HO.out
                        · exact HOk.out i (by omega)
                      · exact ((H6.out.2.2.2.2.2.2.alloc H6.out.2.2.2.2.2.2.size _).trans (hB7.mono (by omega))).setCell (p := ⟨B, 2, none⟩) (by show w.heap.size ≤ B; omega) _
                    · have t0' : (fdE f LL != 0) = true := by simp [hq]
                      have hsix := (fdE_cases HH.out.2.1 LL).resolve_left hq
                      have HX : Hid (rdE f (xn : Int) false sz dz = 6) := by
                        show _ = _
                        unfold rdE
                        rw [if_neg (not_not_intro HH.out.1), Int.toNat_natCast, if_neg HNB.out, ← HSx.out.1, if_neg (not_not_intro HE.out), if_neg fun h2 => hq ?_]
                        have := (okT_iff HE.out).1 h2 t hcr
                        rwa [HLG.out] at this
                      rw [hsix] at t0' ⊢
                      have HRR : Hid (Abx w6 (w.heap.size + 1) (.bool false) (.slice none 0 0) (.slice none 0 0) ∧ Below w.heap.size w w6) := ⟨H6.out.2.1, H6.out.2.2.2.2.2.2⟩
                      have r0 := HRR.out.1.c0
                      have r1 := HRR.out.1.c1
                      have r2 := HRR.out.1.c2
                      have f0 := HRR.out.1.fr 0
                      have f1 := HRR.out.1.fr 1
                      have f2 := HRR.out.1.fr 2
                      clear hq hsix
                      go_wp2_with fail
                      have FF := HRR.out.1.set3 (.bool false) (.slice none 0 0) (.slice none 0 0)
                      have q0 := FF.c0
                      have q1 := FF.c1
                      have q2 := FF.c2
                      exact bodyPost_ret (v := .tuple #[.agg #[.bool false, .slice none 0 0, .slice none 0 0], .int .i64 6]) (by simp [results, Tryd.results6, go_sem, q0, q1, q2]) rfl (ur12_no HX.out (by decide) (bel_set3 HRR.out.2 (by omega) _ _ _))
                  · replace hxe : xn = n1 := by omega
                    have hdr : t.drop xn = [] := by rw [hxe, ← htl, List.drop_length]
                    have HXE : Hid (xn = n1) := hxe
                    have hx0 : n1 - xn = 0 := by omega
                    clear hxe
                    go_wp2_with (at_builtin; first | (refine app_all rfl _ _ rfl _ w1.heap.size (.slice none 0 0) [] 0 rfl (some ⟨g2, 0, none⟩) (t.take xn) xn n1 (by rw [List.length_take]; omega) rfl rfl (World.ownsRow_nil _ _ _ _) (.inr ⟨g2, 0, rfl, hg2l, fun j hj => by rw [List.length_take] at hj; rw [nth_take _ _ _ (by omega), Nat.zero_add]; exact HG2.out.cell (by omega)⟩) (by omega) (Nat.le_refl _) ?_; intro g3 gc3 w3 ho3 hN3 hB3; simp only [Nat.zero_add, List.nil_append] at ho3 hN3 ⊢; have hz3 := hB3.size) | (refine app_list rfl _ _ rfl _ w1.heap.size w3.heap.size (.slice g3 xn gc3) (t.take xn) 0 rfl rfl (by rw [HT1.out]; exact ho3.alloc _) (World.alloc_heap_new _ _) (by rw [HT1.out]; omega) (by simp; omega) ?_; intro g4 gc4 w4 ho4 hB4; rw [HT1.out] at ho4 ⊢) | (refine app_all rfl _ _ rfl _ w1.heap.size (.slice (some ⟨g4, 0, none⟩) (xn + 1) gc4) (t.take xn ++ [0]) (xn + 1) (by rw [List.length_append, HT1.out]; rfl) _ (t.drop xn) _ _ (by rw [List.length_drop, htl]; exact hx0) rfl rfl ho4 (.inl hdr) (by omega) (by have := hB4.size; simp at this; omega) ?_; intro g5 gc5 w5 ho5 hN5 hB5; have hBa : Below w1.heap.size w1 w5 := (hB3.trans ((Below.refl _ w3).alloc hz3 _)).trans (hB4.trans hB5); have H5 : Hid (Abx w5 w.heap.size (.bool false) (.slice (some ⟨bs, os, none⟩) sz.length sc) (.slice da dz.length dc) ∧ Abx w5 (w.heap.size + 1) (.bool false) (.slice none 0 0) (.slice none 0 0) ∧ Abx w5 B (.bool false) (.slice g n1 gc) v ∧ MidC v1.heap.size B w5 g Sx gc ∧ w5.ownsRow u.heap.size 3 1 v Q.length (Q.map (Value.int .i64)) ∧ u.heap.size ≤ w5.heap.size ∧ Below w.heap.size w w5) := ⟨H1.out.1.go hBa, H1.out.2.1.go hBa, H1.out.2.2.1.go hBa, H1.out.2.2.2.1.go (by have := H1.out.2.2.2.2.2.1; omega) hBa, own_go H1.out.2.2.2.2.1 hBa, Nat.le_trans H1.out.2.2.2.2.2.1 hBa.size, H1.out.2.2.2.2.2.2.trans (hBa.mono H1.out.2.2.2.2.2.2.size)⟩; have hd4 := H5.out.1.c0; have hd5 := H5.out.1.c1; have hd6 := H5.out.1.c2))
                    have HX5 : Hid (IsInts w5.heap.size w5 g5 (xin xn 0 t)) := by
                      have h := hN5.ints.1
                      rw [List.append_assoc, List.singleton_append] at h
                      exact h
                    have hz5 := hBa.size
                    have hline := line2_any false (some ⟨bs, os, none⟩) sc sz da dc dz xn g5 gc5 (xin xn 0 t) 0 L sz.length (by rw [xin_length (by omega), htl]; exact HSx.out.2.2) rfl hxl HH.out.2.2.1 HH.out.2.2.2 (fun j hj => by
                      have h := xin_line (s := sz) hxl (t := t) (by rw [← HSx.out.1]; exact hcr) (v := (j : Int)) (by omega) (by rw [← HL.out]; omega)
                      rw [show (((0 : Nat) : Int) + (j : Int)) = (j : Int) by omega, h.1]; exact h.2) (by omega) hL4 w5 ((HI.out.1.below H5.out.2.2.2.2.2.2).mono H5.out.2.2.2.2.2.2.size) ((HI.out.2.1.below H5.out.2.2.2.2.2.2).mono H5.out.2.2.2.2.2.2.size) HX5.out
                    have HLn : Hid (Calls Tryd.prog 19 #[.agg #[.bool false, .slice (some ⟨bs, os, none⟩) sz.length sc, .slice da dz.length dc], .int .i64 (xn : Nat), .slice g5 sz.length gc5, .int .i64 0, .int .i64 (L : Nat)] w5 fun e w' => ∃ g gc, e = .returned (.slice g L gc) ∧ NewC w5.heap.size w' g (rdL sz dz xn t) gc ∧ Below w5.heap.size w5 w') := by
                      unfold rdL
                      rw [← HL.out, Int.toNat_natCast]
                      exact hline
                    clear hline ho3 hN3 hB3 ho4 hB4 ho5 hN5 hB5 hBa hz3
                    first | rw [show xn + 1 + 0 = sz.length by have := HSx.out.2.2; have := HXE.out; omega] | rw [show xn + 1 = sz.length by have := HSx.out.2.2; have := HXE.out; omega]
                    refine HLn.out.mono ?_
                    rintro e w6 ⟨gl, glc, rfl, hNl, hBl⟩
                    have H6 : Hid (Abx w6 w.heap.size (.bool false) (.slice (some ⟨bs, os, none⟩) sz.length sc) (.slice da dz.length dc) ∧ Abx w6 (w.heap.size + 1) (.bool false) (.slice none 0 0) (.slice none 0 0) ∧ Abx w6 B (.bool false) (.slice g n1 gc) v ∧ MidC v1.heap.size B w6 g Sx gc ∧ w6.ownsRow u.heap.size 3 1 v Q.length (Q.map (Value.int .i64)) ∧ u.heap.size ≤ w6.heap.size ∧ Below w.heap.size w w6) := ⟨H5.out.1.go hBl, H5.out.2.1.go hBl, H5.out.2.2.1.go hBl, H5.out.2.2.2.1.go (by have := H5.out.2.2.2.2.2.1; omega) hBl, own_go H5.out.2.2.2.2.1 hBl, Nat.le_trans H5.out.2.2.2.2.2.1 hBl.size, H5.out.2.2.2.2.2.2.trans (hBl.mono H5.out.2.2.2.2.2.2.size)⟩
                    obtain ⟨LL, hLL⟩ : ∃ LL, LL = rdL sz dz xn t := ⟨_, rfl⟩
                    rw [← hLL] at hNl
                    have hfo := folded_any f LL L (by rw [hLL, rdL_length, ← HL.out, Int.toNat_natCast]) gl glc hL4 w6 hNl.ints (by rw [hLL]; exact l64r (lnL_64 HI.out.2.2 _ _ _ _))
                    have HLG : Hid (rdL sz dz xn t = LL) := hLL.symm
                    clear hNl hBl hLL hd4 hd5 hd6 HLn
                    go_wp2_with fail
                    refine hfo.mono ?_
                    rintro e w9 ⟨rfl, hw9⟩
                    obtain rfl := hw9.symm
                    clear hfo hw9
                    by_cases hq : fdE f LL = 0
                    · have t0' : (fdE f LL != 0) = false := by simp [hq]
                      have HV : Hid (fdV f LL = nth D q) := by show _ = _; rw [← HLG.out, ht, HD.out.2.2 q hlq]
                      have HO : Hid (fdE f (rdL sz dz xn (cr Sx q)) = 0) := by show _ = _; rw [← ht, HLG.out]; exact hq
                      have HN9 : Hid ((w6.alloc (.cells #[.int .i64 (fdV f LL)] 3)).heap[w6.heap.size]? = some (.cells #[.int .i64 (fdV f LL)] 3 (0, 0))) := World.alloc_heap_new _ _
                      have o2 := H6.out.2.2.1.c2
                      have o3 := (H6.out.2.2.1.al (.cells #[.int .i64 (fdV f LL)] 3)).c2
                      have hsW := H6.out.2.2.2.2.2.1
                      clear hq
                      go_wp2_with (at_builtin; refine app_list rfl _ _ rfl _ u.heap.size w6.heap.size v Q (fdV f LL) rfl rfl (H6.out.2.2.2.2.1.alloc _) HN9.out (by rw [HQ.out.1]; omega) (by simp; omega) ?_; intro g7 gc7 w7 ho7 hB7; have HO7 : Hid (Abx w7 B (.bool false) (.slice g n1 gc) v) := (H6.out.2.2.1.al _).bel hB7 (by omega); have o5 := HO7.out.c2; have of5 := HO7.out.fr 2)
                      have hz7 := hB7.size
                      simp at hz7
                      refine ⟨⟨q + 1, .slice (some ⟨g7, 0, none⟩) (Q.length + 1) gc7, by omega, by go_num, ?_, ((H6.out.1.al _).bel hB7 (by omega)).ot (by show w.heap.size ≠ B; omega) _, ((H6.out.2.1.al _).bel hB7 (by omega)).ot (by show w.heap.size + 1 ≠ B; omega) _, HO7.out.s2 _, ?_, ?_, by simp [World.setCell]; omega, ?_⟩, by simp [intOf]; omega⟩
                      · rw [HQ.out.2, ← HV.out, List.length_append, List.length_singleton]
                        exact ownsRow_setCell_below ho7 (by show B < u.heap.size; omega) _
                      · exact MidC.s1 ⟨((H6.out.2.2.2.1.1.al (by omega) _).bel (hB7.mono (by omega))), H6.out.2.2.2.1.2⟩ (p := ⟨B, 2, none⟩) (.inr (Nat.le_refl _)) _
                      · intro i hi
                        by_cases e : i = q
                        · rw [e]; exact HO.out
                        · exact HOk.out i (by omega)
                      · exact ((H6.out.2.2.2.2.2.2.alloc H6.out.2.2.2.2.2.2.size _).trans (hB7.mono (by omega))).setCell (p := ⟨B, 2, none⟩) (by show w.heap.size ≤ B; omega) _
                    · have t0' : (fdE f LL != 0) = true := by simp [hq]
                      have hsix := (fdE_cases HH.out.2.1 LL).resolve_left hq
                      have HX : Hid (rdE f (xn : Int) false sz dz = 6) := by
                        show _ = _
                        unfold rdE
                        rw [if_neg (not_not_intro HH.out.1), Int.toNat_natCast, if_neg HNB.out, ← HSx.out.1, if_neg (not_not_intro HE.out), if_neg fun h2 => hq ?_]
                        have := (okT_iff HE.out).1 h2 t hcr
                        rwa [HLG.out] at this
                      rw [hsix] at t0' ⊢
                      have HRR : Hid (Abx w6 (w.heap.size + 1) (.bool false) (.slice none 0 0) (.slice none 0 0) ∧ Below w.heap.size w w6) := ⟨H6.out.2.1, H6.out.2.2.2.2.2.2⟩
                      have r0 := HRR.out.1.c0
                      have r1 := HRR.out.1.c1
                      have r2 := HRR.out.1.c2
                      have f0 := HRR.out.1.fr 0
                      have f1 := HRR.out.1.fr 1
                      have f2 := HRR.out.1.fr 2
                      clear hq hsix
                      go_wp2_with fail
                      have FF := HRR.out.1.set3 (.bool false) (.slice none 0 0) (.slice none 0 0)
                      have q0 := FF.c0
                      have q1 := FF.c1
                      have q2 := FF.c2
                      exact bodyPost_ret (v := .tuple #[.agg #[.bool false, .slice none 0 0, .slice none 0 0], .int .i64 6]) (by simp [results, Tryd.results6, go_sem, q0, q1, q2]) rfl (ur12_no HX.out (by decide) (bel_set3 HRR.out.2 (by omega) _ _ _))
                · obtain rfl : q = N := by omega
                  have HX : Hid (rdE f (xn : Int) false sz dz = 0) := by
                    show _ = _
                    unfold rdE
                    rw [if_neg (not_not_intro HH.out.1), Int.toNat_natCast, if_neg HNB.out, ← HSx.out.1, if_neg (not_not_intro HE.out), if_pos ((okT_iff HE.out).2 fun t ht => ?_)]
                    have hc := cr_place HE.out ht
                    have := hok (place Sx t).toNat (by rw [HN.out] at hc; simpa using hc.2)
                    rwa [hc.1] at this
                  have htt : D.take q = D := List.take_of_length_le (by rw [HD.out.2.1]; exact Nat.le_refl _)
                  rw [htt] at hown
                  obtain ⟨g1, gc1, rfl, hN1⟩ := own_cap hown
                  have HQ : Hid (Abx wr (w.heap.size + 1) (.bool false) (.slice none 0 0) (.slice none 0 0) ∧ NewC u.heap.size wr g1 D gc1 ∧ MidC v1.heap.size B wr g Sx gc ∧ u.heap.size ≤ wr.heap.size ∧ Below w.heap.size w wr) := ⟨hR, hN1, hM, hsz, hB⟩
                  have o0 := hO.c0
                  have o1 := hO.c1
                  have o2 := hO.c2
                  have r0 := hR.c0
                  have r1 := hR.c1
                  have r2 := hR.c2
                  have f0 := hR.fr 0
                  have f1 := hR.fr 1
                  have f2 := hR.fr 2
                  clear hown htt hA hR hO hM hok hsz hB hN1
                  go_wp2_with fail
                  have FF := HQ.out.1.set3 (.bool false) (.slice g n1 gc) (.slice g1 D.length gc1)
                  have q0 := FF.c0
                  have q1 := FF.c1
                  have q2 := FF.c2
                  refine bodyPost_ret (v := .tuple #[.agg #[.bool false, .slice g n1 gc, .slice g1 D.length gc1], .int .i64 0]) (by simp [results, Tryd.results6, go_sem, q0, q1, q2]) rfl ?_
                  have hX := ((HQ.out.2.2.1.1.new (by have := HQ.out.2.2.2.1; omega)).set3 (b := w.heap.size + 1) (by omega) (.bool false) (.slice g n1 gc) (.slice g1 D.length gc1)).low (lo' := w.heap.size) (by omega)
                  have hY := (HQ.out.2.1.1.set3 (b := w.heap.size + 1) (by omega) (.bool false) (.slice g n1 gc) (.slice g1 D.length gc1)).low (lo' := w.heap.size) (by omega)
                  have hU := ur12_ok (e := rdE f (xn : Int) false sz dz) (w := w) HX.out (S := Sx) (D := D) (xc := gc) (yc := gc1) HSx.out.2.1.symm rfl hX hY (bel_set3 HQ.out.2.2.2.2 (b := w.heap.size + 1) (by omega) (.bool false) (.slice g n1 gc) (.slice g1 D.length gc1))
                  unfold rdS12 rdD12
                  rw [Int.toNat_natCast, ← HSx.out.1, ← HD.out.1]
                  exact hU
            · have HE : Hid (rdE f (xn : Int) false sz dz = errOf Sx) := by show _ = _; unfold rdE; rw [if_neg (not_not_intro HH.out.1), Int.toNat_natCast, if_neg HNB.out, ← HSx.out.1, if_pos herr]
              have HNz : Hid (errOf Sx ≠ 0) := herr
              have t0 : (errOf Sx != 0) = true := by simp [herr]
              have r0 := HA.out.2.1.c0
              have r1 := HA.out.2.1.c1
              have r2 := HA.out.2.1.c2
              have f0 := HA.out.2.1.fr 0
              have f1 := HA.out.2.1.fr 1
              have f2 := HA.out.2.1.fr 2
              clear herr
              go_wp2_with fail
              have F := HA.out.2.1.set3 (.bool false) (.slice none 0 0) (.slice none 0 0)
              have q0 := F.c0
              have q1 := F.c1
              have q2 := F.c2
              exact bodyPost_ret (v := .tuple #[.agg #[.bool false, .slice none 0 0, .slice none 0 0], .int .i64 (errOf Sx)]) (by simp [results, Tryd.results6, go_sem, q0, q1, q2]) rfl (ur12_no HE.out HNz.out (bel_set3 HA.out.2.2.2 (by omega) _ _ _))
  · have HE : Hid (rdE f x c sz dz = lnE f x c sz dz) := by show _ = _; unfold rdE; rw [if_pos he]
    have HN : Hid (lnE f x c sz dz ≠ 0) := he
    have t0 : (lnE f x c sz dz != 0) = true := by simp [he]
    clear he
    go_enter Tryd.func6, Tryd.ntmps6
    go_wp2_with fail
    refine hC.mono ?_
    rintro e v1 ⟨rfl, hB⟩
    have HB1 : Hid (Below w.heap.size w v1) := HB0.out.trans (hB.mono HB0.out.size)
    have HR : Hid (Abx v1 (w.heap.size + 1) (.bool false) (.slice none 0 0) (.slice none 0 0)) := pr.go hB
    clear hB hC pa pr p0 p1 p2 HB0
    have r0 := HR.out.c0
    have r1 := HR.out.c1
    have r2 := HR.out.c2
    have f0 := HR.out.fr 0
    have f1 := HR.out.fr 1
    have f2 := HR.out.fr 2
    go_wp2_with fail
    have F := HR.out.set3 (.bool false) (.slice none 0 0) (.slice none 0 0)
    have q0 := F.c0
    have q1 := F.c1
    have q2 := F.c2
    exact bodyPost_ret (v := .tuple #[.agg #[.bool false, .slice none 0 0, .slice none 0 0], .int .i64 (lnE f x c sz dz)]) (by simp [results, Tryd.results6, go_sem, q0, q1, q2]) rfl (ur12_no HE.out HN.out (bel_set3 HB1.out (by omega) _ _ _))
end Go.Proofs.YtmbgomljofngnabDoor
