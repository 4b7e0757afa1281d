/-
  What the document's answer names: a shape and places.
-/
import Derived.Deep.QuietTactic
import Derived.BigQuiet
import Derived.Test.YtlflacoiidhgoaaDoorRmove
import Derived.Test.YtlflacoiidhgoaaDoorRall
namespace Go.Proofs.YtlflacoiidhgoaaDoor
open Go.RowKit
set_option linter.unusedVariables false

def UN (e : Int) (S P : List Int) (w : World) (r : Ending) (w' : World) : Prop := ∃ ga gc pa pc, r = .returned (.tuple #[.slice ga S.length gc, .slice pa P.length pc, .int .i64 e]) ∧ NewC w.heap.size w' ga S gc ∧ NewInts w.heap.size w' pa P ∧ Below w.heap.size w w'
theorem UN.no {e : Int} {S P : List Int} {w w' : World} {e' : Int} (h : e = e') (h0 : e' ≠ 0) (hB : Below w.heap.size w w') : UN e (onl e S) (onl e P) w (.returned (.tuple #[.slice none 0 0, .slice none 0 0, .int .i64 e'])) w' := by
  subst h
  rw [onl_no h0, onl_no h0]
  exact ⟨none, 0, none, 0, rfl, ⟨.inl rfl, Nat.le_refl _⟩, .inl rfl, hB⟩
theorem fault_k (a : Option Addr) (cap : Nat) (zs : List Int) (n : Nat) (hn : zs.length = n) (hreach : zs.length ≤ 9223372036854775807) (n₀ : Nat) (w : World) (hI : IsInts n₀ w a zs) :
    Calls Tryd.prog 21 #[.slice a n cap] w fun e w' => e = .returned (.int .i64 (errOf zs)) ∧ w' = w := by
  subst hn
  exact fault_any a cap zs hreach n₀ w hI
theorem cells_k (a : Option Addr) (cap : Nat) (zs : List Int) (n q : Nat) (hn : zs.length = n) (hq : prod zs = q) (hreach : zs.length ≤ 9223372036854775807) (he : errOf zs = 0) (n₀ : Nat) (w : World) (hI : IsInts n₀ w a zs) :
    Calls Tryd.prog 22 #[.slice a n cap] w fun e w' => e = .returned (.int .i64 (q : Int)) ∧ w' = w := by
  subst hn
  rw [← hq]
  exact cells_any a cap zs hreach he n₀ w hI
theorem coords_k (a : Option Addr) (cap : Nat) (zs : List Int) (n p : Nat) (hn : zs.length = n) (he : errOf zs = 0) (hp : (p : Int) < prod zs) (w : World) (hI : IsInts w.heap.size w a zs) :
    Calls Tryd.prog 23 #[.slice a n cap, .int .i64 (p : Int)] w fun e w' => ∃ g, e = .returned (.slice (some ⟨g, 0, none⟩) n n) ∧ w.heap.size ≤ g ∧ w'.rowIs g 3 n (fun j => .int .i64 (nth (cr zs p) j)) ∧ Below w.heap.size w w' := by
  subst hn
  exact coords_at a cap zs p he hp w hI
/-- A part of a list that lies in a block of its own. -/
theorem part_ints {W : World} {B : Nat} {t : List Int} {n o l : Nat} (hn : t.length = n) (h : o + l ≤ n) (hB : B < W.heap.size) (hc : ∀ j, j < n → W.cell? ⟨B, j, none⟩ = some (.int .i64 (nth t j))) :
    IsInts W.heap.size W (if n = o then some ⟨B, 0, none⟩ else some ⟨B, o, none⟩) ((t.drop o).take l) := by
  by_cases e : n = o
  · left
    rw [show l = 0 by omega, List.take_zero]
  · rw [if_neg e]
    refine .inr ⟨B, o, rfl, hB, fun j hj => ?_⟩
    rw [List.length_take, List.length_drop] at hj
    rw [nth_take _ _ _ (by omega), hc (o + j) (by omega)]
    congr 2
    unfold nth
    rw [List.getD_eq_getElem?_getD, List.getD_eq_getElem?_getD, List.getElem?_drop]
set_option maxRecDepth 100000 in
set_option maxHeartbeats 8000000 in
theorem named_any (c : Bool) (sa : Option Addr) (sc : Nat) (sz : List Int) (da : Option Addr) (dc : Nat) (dz : List Int) (ba : Option Addr) (bc : Nat) (bs : List ArV) (h3 : bs.length ≤ 9223372036854775807) (hf : flawE c sz dz = 0) (hfl : flL (bya bs) = 0) (w : World) (hs : IsInts w.heap.size w sa sz) (hb : IsAs w.heap.size w ba bs) :
    Calls Tryd.prog 11 #[.agg #[.bool c, .slice sa sz.length sc, .slice da dz.length dc], .slice ba bs.length bc] w (UN (nmE sz (bya bs)) (onl (nmE sz (bya bs)) (pkS (bya bs))) (onl (nmE sz (bya bs)) (plL sz (bya bs))) w) := by
  have hz6 : sz.length ≤ 6 := (flawE_short hf).1
  have HI : Hid (IsInts w.heap.size w sa sz ∧ IsAs w.heap.size w ba bs ∧ flL (bya bs) = 0 ∧ errOf sz = 0) := ⟨hs, hb, hfl, (flawE_zero hf).1⟩
  have HW0 : Hid (Abx (w.alloc (.cells #[.bool c, .slice sa sz.length sc, .slice da dz.length dc] 24)) w.heap.size (.bool c) (.slice sa sz.length sc) (.slice da dz.length dc) ∧ Below w.heap.size w (w.alloc (.cells #[.bool c, .slice sa sz.length sc, .slice da dz.length dc] 24))) := ⟨Abx.new w _ _ _, (Below.refl _ w).alloc (Nat.le_refl _) _⟩
  have hN0 : w.heap.size + 1 ≤ (w.alloc (.cells #[.bool c, .slice sa sz.length sc, .slice da dz.length dc] 24)).heap.size := by simp
  have p1 := HW0.out.1.c1
  clear hs hb hf hfl
  go_enter Tryd.func11, Tryd.ntmps11
  by_cases hlen : bs.length = sz.length
  · have tl : ((bs.length : Int) != (sz.length : Int)) = false := by simp [hlen]
    have HLn : Hid (bs.length = sz.length) := hlen
    have hb6 : bs.length ≤ 6 := by omega
    clear hlen
    go_wp2_with fail
    clear p1 tl
    go_loopw [7] (fun i wr => ∃ k : Nat, k ≤ bs.length ∧ i = .int .i64 k ∧ chL ((bya bs).take k) = false ∧ Abx wr w.heap.size (.bool c) (.slice sa sz.length sc) (.slice da dz.length dc) ∧ Below w.heap.size w wr ∧ w.heap.size + 1 ≤ wr.heap.size) (fun i _ => bs.length - (intOf i).toNat)
    case atStart => exact ⟨0, Nat.zero_le _, rfl, rfl, HW0.out.1, HW0.out.2, hN0⟩
    case round =>
      obtain ⟨k, hk, rfl, hch, hX, hB, hN⟩ := hrel
      have HW : Hid (chL ((bya bs).take k) = false ∧ Abx wr w.heap.size (.bool c) (.slice sa sz.length sc) (.slice da dz.length dc) ∧ Below w.heap.size w wr) := ⟨hch, hX, hB⟩
      by_cases hlt : k < bs.length
      · obtain ⟨b, off, rfl, hbb, hcell⟩ := (HI.out.2.1.below hB).at hlt
        obtain ⟨c0, c1, c2⟩ := hcell k hlt
        clear hcell c1 c2 hch hX hB
        cases hc : (arz bs k).1
        · rw [hc] at c0
          have HC : Hid (chL ((bya bs).take (k + 1)) = false) := by show _ = _; rw [chL_take bs hlt, HW.out.1, hc]; rfl
          clear hc
          go_wp2_with fail
          exact ⟨⟨k + 1, by omega, by go_num, HC.out, HW.out.2.1, HW.out.2.2, hN⟩, by simp [intOf]; omega⟩
        · rw [hc] at c0
          have HE : Hid (nmE sz (bya bs) = 6) := by show _ = _; unfold nmE; rw [if_neg (by rw [bya_length]; simpa using HLn.out), if_pos (chL_bad bs hlt hc)]
          clear hc
          go_wp2_with fail
          refine bodyPost_ret (v := .tuple #[.slice none 0 0, .slice none 0 0, .int .i64 6]) (by simp [results, Tryd.results11, go_sem]) rfl ?_
          exact UN.no HE.out (by decide) HW.out.2.2
      · have HC : Hid (chL (bya bs) = false) := by have h := hch; rw [List.take_of_length_le (by rw [bya_length]; omega)] at h; exact h
        obtain rfl : k = bs.length := by omega
        obtain ⟨v1, hv1⟩ : ∃ v1, v1 = wr := ⟨_, rfl⟩
        subst hv1
        have HW1 : Hid (Abx v1 w.heap.size (.bool c) (.slice sa sz.length sc) (.slice da dz.length dc) ∧ Below w.heap.size w v1) := ⟨hX, hB⟩
        obtain ⟨D, hD⟩ : ∃ D, D = pkS (bya bs) := ⟨_, rfl⟩
        have HD : Hid (D = pkS (bya bs)) := hD
        have hD36 : D.length ≤ 36 := by have h := pkS_short _ HI.out.2.2.1; rw [bya_length, ← hD] at h; omega
        clear hX hB hch HW hlt hD
        go_wp2_with fail
        go_loopw [9, 8] (fun i s wr => ∃ (k : Nat) (v : Value), k ≤ bs.length ∧ i = .int .i64 k ∧ v = s ∧ offs bs k ≤ D.length ∧ wr.ownsRow (w.heap.size + 1) 3 1 v (D.take (offs bs k)).length ((D.take (offs bs k)).map (Value.int .i64)) ∧ Abx wr w.heap.size (.bool c) (.slice sa sz.length sc) (.slice da dz.length dc) ∧ Below w.heap.size w wr ∧ w.heap.size + 1 ≤ wr.heap.size) (fun i _ _ => bs.length - (intOf i).toNat)
        case atStart =>
          refine ⟨0, .slice none 0 0, Nat.zero_le _, rfl, rfl, by rw [offs_zero]; exact Nat.zero_le _, ?_, HW1.out.1, HW1.out.2, hN⟩
          rw [offs_zero, List.take_zero]
          exact World.ownsRow_nil _ _ _ _
        case round =>
          obtain ⟨k, v, hk, rfl, rfl, ho, hown, hX, hB, hN2⟩ := hrel
          by_cases hlt : k < bs.length
          · obtain ⟨u, hu⟩ : ∃ u, u = wr := ⟨_, rfl⟩
            subst hu
            have HO : Hid (u.ownsRow (w.heap.size + 1) 3 1 v (D.take (offs bs k)).length ((D.take (offs bs k)).map (Value.int .i64)) ∧ Abx u w.heap.size (.bool c) (.slice sa sz.length sc) (.slice da dz.length dc) ∧ Below w.heap.size w u) := ⟨hown, hX, hB⟩
            have hle := offs_le bs hlt
            rw [← HD.out] at hle
            have hav := HI.out.2.1.2 k hlt
            have HNt : Hid (∀ i, i < (arz bs k).2.1.2.length → nth D (offs bs k + i) = nth (arz bs k).2.1.2 i) := fun i hi => by rw [HD.out]; exact offs_nth bs hlt hi
            have HOs : Hid (offs bs (k + 1) = offs bs k + (arz bs k).2.1.2.length) := offs_succ bs hlt
            have HAt : Hid (∀ W, Below w.heap.size w W → ∃ b off, ba = some ⟨b, off, none⟩ ∧ b < w.heap.size ∧ W.cell? ⟨b, off + k * 3 + 1, none⟩ = some (arz bs k).s) := fun W hW => by
              obtain ⟨b, off, e, h1, h2⟩ := (HI.out.2.1.below hW).at hlt
              exact ⟨b, off, e, h1, (h2 k hlt).2.1⟩
            have hsx : (arz bs k).2.1.2.length ≤ 6 := (flawE_short (fl_at bs HI.out.2.2.1 hlt)).1
            unfold ArV.s at HAt
            have HAV : Hid (IsAv w.heap.size w (arz bs k)) := hav
            clear hown hX hB hav
            generalize offs bs k = o at *
            generalize arz bs k = AB at *
            obtain ⟨cb, ⟨⟨sb, scb⟩, szb⟩, ⟨⟨db, dcb⟩, dzb⟩⟩ := AB
            dsimp only at HAt HNt HOs hle hsx HAV
            obtain ⟨b, off, rfl, hbb, -⟩ := HAt.out u HO.out.2.2
            go_wp2_with fail
            go_loopw [10, 8] (fun i s wr => ∃ (i' : Nat) (v : Value), i' ≤ szb.length ∧ i = .int .i64 i' ∧ v = s ∧ wr.ownsRow (w.heap.size + 1) 3 1 v (D.take (o + i')).length ((D.take (o + i')).map (Value.int .i64)) ∧ Abx wr w.heap.size (.bool c) (.slice sa sz.length sc) (.slice da dz.length dc) ∧ Below w.heap.size w wr ∧ w.heap.size + 1 ≤ wr.heap.size) (fun i _ _ => szb.length - (intOf i).toNat)
            case atStart => exact ⟨0, v, Nat.zero_le _, rfl, rfl, HO.out.1, HO.out.2.1, HO.out.2.2, hN2⟩
            case round =>
              obtain ⟨i, v', hi, rfl, rfl, hown, hX, hB, hN3⟩ := hrel
              obtain ⟨b', off', e', hbb', cS⟩ := HAt.out wr hB
              cases e'
              by_cases hil : i < szb.length
              · obtain ⟨b2, o2, rfl, hb2, hcS⟩ := (HAV.out.2.2.1.1.below hB).at hil
                have cs := hcS i hil
                have HV : Hid (nth szb i = nth D (o + i)) := (HNt.out i hil).symm
                have HX : Hid (Abx wr w.heap.size (.bool c) (.slice sa sz.length sc) (.slice da dz.length dc) ∧ Below w.heap.size w wr) := ⟨hX, hB⟩
                clear hcS hX hB
                go_wp2_with (first
                  | (at_builtin; go_loud (refine app_list rfl _ _ rfl _ (w.heap.size + 1) wr.heap.size v' (D.take (o + i)) (nth szb i) rfl rfl (hown.alloc _) (heap_alloc_new wr _) (by rw [take_lenR _ (show o + i ≤ D.length by omega)]; omega) (by simp; omega) ?_; intro g1 gc1 w4 hown1 hB4)))
                rw [HV.out, ← take_snoc D (o + i) (by omega), take_lenR D (show o + i ≤ D.length by omega)] at hown1
                have hz4 := hB4.size
                simp at hz4
                refine ⟨⟨i + 1, _, by omega, by go_num, rfl, ?_, (HX.out.1.al _).bel hB4 (by omega), (HX.out.2.alloc HX.out.2.size _).trans (hB4.mono (by omega)), by omega⟩, by simp [intOf]; omega⟩
                rw [take_lenR D (show o + (i + 1) ≤ D.length by omega)]
                have hmin : min (o + i) D.length = o + i := by omega
                rw [hmin]
                exact hown1
              · obtain rfl : i = szb.length := by omega
                have HX : Hid (Abx wr w.heap.size (.bool c) (.slice sa sz.length sc) (.slice da dz.length dc) ∧ Below w.heap.size w wr) := ⟨hX, hB⟩
                clear hX hB
                go_wp2_with fail
                refine ⟨⟨k + 1, v', by omega, by go_num, rfl, by rw [HOs.out]; exact hle, ?_, HX.out.1, HX.out.2, hN3⟩, by simp [intOf]; omega⟩
                rw [HOs.out]
                exact hown
          · obtain rfl : k = bs.length := by omega
            rw [offs_all, ← HD.out, List.take_length] at hown
            obtain ⟨g, gc, rfl, hG⟩ := own_cap hown
            obtain ⟨v2, hv2⟩ : ∃ v2, v2 = wr := ⟨_, rfl⟩
            subst hv2
            have HW2 : Hid (Abx v2 w.heap.size (.bool c) (.slice sa sz.length sc) (.slice da dz.length dc) ∧ Below w.heap.size w v2 ∧ NewC (w.heap.size + 1) v2 g D gc) := ⟨hX, hB, hG⟩
            clear hown hX hB hG hlt
            go_wp2_with fail
            refine (fault_k g gc D D.length rfl (by omega) v2.heap.size v2 HW2.out.2.2.1.ints).mono ?_
            rintro e v9 ⟨rfl, hv9⟩
            obtain rfl := hv9.symm
            by_cases hE : errOf D = 0
            · rw [hE]
              have HED : Hid (errOf D = 0) := hE
              clear hE
              go_wp2_with fail
              go_loopw [12] (fun i wr => ∃ k : Nat, k ≤ bs.length ∧ i = .int .i64 k ∧ (∀ j, j < k → ∀ i, i < (arz bs j).2.2.2.length → 0 ≤ nth (arz bs j).2.2.2 i ∧ nth (arz bs j).2.2.2 i < nth sz j) ∧ Abx wr w.heap.size (.bool c) (.slice sa sz.length sc) (.slice da dz.length dc) ∧ Below w.heap.size w wr ∧ NewC (w.heap.size + 1) wr g D gc ∧ w.heap.size + 1 ≤ wr.heap.size) (fun i _ => bs.length - (intOf i).toNat)
              case atStart => exact ⟨0, Nat.zero_le _, rfl, fun j hj => absurd hj (Nat.not_lt_zero _), HW2.out.1, HW2.out.2.1, HW2.out.2.2, hN2⟩
              case round =>
                obtain ⟨k, hk, rfl, hall, hX, hB, hG, hN4⟩ := hrel
                have HAl : Hid (∀ j, j < k → ∀ i, i < (arz bs j).2.2.2.length → 0 ≤ nth (arz bs j).2.2.2 i ∧ nth (arz bs j).2.2.2 i < nth sz j) := hall
                have HX : Hid (Abx wr w.heap.size (.bool c) (.slice sa sz.length sc) (.slice da dz.length dc) ∧ Below w.heap.size w wr ∧ NewC (w.heap.size + 1) wr g D gc) := ⟨hX, hB, hG⟩
                clear hall hX hB hG
                by_cases hlt : k < bs.length
                · obtain ⟨u, hu⟩ : ∃ u, u = wr := ⟨_, rfl⟩
                  subst hu
                  have hkz : k < sz.length := by rw [← HLn.out]; exact hlt
                  have HBad : Hid (∀ i, i < (arz bs k).2.2.2.length → ¬ (0 ≤ nth (arz bs k).2.2.2 i ∧ nth (arz bs k).2.2.2 i < nth sz k) → nmE sz (bya bs) = 5) := fun i hi h => by
                    unfold nmE
                    rw [if_neg (by rw [bya_length]; simpa using HLn.out), if_neg (by rw [HC.out]; decide), if_neg (by rw [← HD.out]; simpa using HED.out), if_pos (ix_bad bs sz hlt hi h)]
                  have HOk : Hid ((∀ i, i < (arz bs k).2.2.2.length → 0 ≤ nth (arz bs k).2.2.2 i ∧ nth (arz bs k).2.2.2 i < nth sz k) → ∀ j, j < k + 1 → ∀ i, i < (arz bs j).2.2.2.length → 0 ≤ nth (arz bs j).2.2.2 i ∧ nth (arz bs j).2.2.2 i < nth sz j) := fun h j hj => by
                    by_cases e : j = k
                    · rw [e]; exact h
                    · exact HAl.out j (by omega)
                  have HAt : Hid (∀ W, Below w.heap.size w W → ∃ b off, ba = some ⟨b, off, none⟩ ∧ b < w.heap.size ∧ W.cell? ⟨b, off + k * 3 + 2, none⟩ = some (arz bs k).d) := fun W hW => by
                    obtain ⟨b, off, e, h1, h2⟩ := (HI.out.2.1.below hW).at hlt
                    exact ⟨b, off, e, h1, (h2 k hlt).2.2⟩
                  have hsx : (arz bs k).2.2.2.length ≤ 4096 := (flawE_short (fl_at bs HI.out.2.2.1 hlt)).2
                  unfold ArV.d at HAt
                  have HAV : Hid (IsAv w.heap.size w (arz bs k)) := HI.out.2.1.2 k hlt
                  obtain ⟨z0, hz0⟩ : ∃ z0, z0 = nth sz k := ⟨_, rfl⟩
                  have HZ0 : Hid (nth sz k = z0) := hz0.symm
                  rw [← hz0] at HBad
                  obtain ⟨b, off, rfl, hbb, -⟩ := HAt.out u HX.out.2.1
                  obtain ⟨dzb, hdzb⟩ : ∃ l, l = (arz bs k).2.2.2 := ⟨_, rfl⟩
                  have HDz : Hid ((arz bs k).2.2.2 = dzb) := hdzb.symm
                  rw [← hdzb] at HBad HAt hsx
                  obtain ⟨db, hdb⟩ : ∃ l, l = (arz bs k).2.2.1.1 := ⟨_, rfl⟩
                  obtain ⟨dcb, hdcb⟩ : ∃ l, l = (arz bs k).2.2.1.2 := ⟨_, rfl⟩
                  rw [← hdb, ← hdcb] at HAt
                  have HIb : Hid (IsInts w.heap.size w db dzb) := by rw [hdb, hdzb]; exact HAV.out.2.2.2.1.1
                  clear hz0 hdzb hdb hdcb HAV
                  go_wp2_with fail
                  go_loopw [13] (fun i wr => ∃ i' : Nat, i' ≤ dzb.length ∧ i = .int .i64 i' ∧ (∀ j, j < i' → 0 ≤ nth dzb j ∧ nth dzb j < z0) ∧ Abx wr w.heap.size (.bool c) (.slice sa sz.length sc) (.slice da dz.length dc) ∧ Below w.heap.size w wr ∧ NewC (w.heap.size + 1) wr g D gc ∧ w.heap.size + 1 ≤ wr.heap.size) (fun i _ => dzb.length - (intOf i).toNat)
                  case atStart => exact ⟨0, Nat.zero_le _, rfl, fun j hj => absurd hj (Nat.not_lt_zero _), HX.out.1, HX.out.2.1, HX.out.2.2, hN4⟩
                  case round =>
                    obtain ⟨i, hi, rfl, hin, hX, hB, hG, hN5⟩ := hrel
                    have HIn : Hid (∀ j, j < i → 0 ≤ nth dzb j ∧ nth dzb j < z0) := hin
                    have HY : Hid (Abx wr w.heap.size (.bool c) (.slice sa sz.length sc) (.slice da dz.length dc) ∧ Below w.heap.size w wr ∧ NewC (w.heap.size + 1) wr g D gc) := ⟨hX, hB, hG⟩
                    obtain ⟨b', off', e', hbb', cD⟩ := HAt.out wr hB
                    cases e'
                    by_cases hil : i < dzb.length
                    · obtain ⟨bd, od, rfl, hbd, hcD⟩ := (HIb.out.below hB).at hil
                      have cd := hcD i hil
                      obtain ⟨bz, oz, rfl, hbz, hcZ⟩ := (HI.out.1.below hB).at hkz
                      have cz := hcZ k hkz
                      rw [HZ0.out] at cz
                      have p1 := hX.c1
                      obtain ⟨y0, hy0⟩ : ∃ y0, y0 = nth dzb i := ⟨_, rfl⟩
                      rw [← hy0] at cd
                      have HY0 : Hid (nth dzb i = y0) := hy0.symm
                      clear hin hX hB hG hcD hcZ hy0
                      by_cases h1 : y0 < 0
                      · have HE : Hid (nmE sz (bya bs) = 5) := HBad.out i hil (by rw [HY0.out]; omega)
                        have t1 : decide (y0 < 0) = true := by simpa using h1
                        clear h1
                        go_wp2_with fail
                        go_quiet (fail)
                        go_wp2_with fail
                        refine bodyPost_ret (v := .tuple #[.slice none 0 0, .slice none 0 0, .int .i64 5]) (by simp [results, Tryd.results11, go_sem]) rfl ?_
                        exact UN.no HE.out (by decide) (bel_drewN HY.out.2.1 _)
                      · have t1 : decide (y0 < 0) = false := by simpa using h1
                        by_cases h2 : z0 ≤ y0
                        · have HE : Hid (nmE sz (bya bs) = 5) := HBad.out i hil (by rw [HY0.out]; omega)
                          have t2 : decide (z0 ≤ y0) = true := by simpa using h2
                          clear h1 h2
                          go_wp2_with fail
                          go_quiet (fail)
                          go_wp2_with fail
                          refine bodyPost_ret (v := .tuple #[.slice none 0 0, .slice none 0 0, .int .i64 5]) (by simp [results, Tryd.results11, go_sem]) rfl ?_
                          exact UN.no HE.out (by decide) (bel_drewN HY.out.2.1 _)
                        · have t2 : decide (z0 ≤ y0) = false := by simpa using h2
                          have HIn2 : Hid (∀ j, j < i + 1 → 0 ≤ nth dzb j ∧ nth dzb j < z0) := fun j hj => by
                            by_cases e : j = i
                            · rw [e, HY0.out]; omega
                            · exact HIn.out j (by omega)
                          clear h1 h2
                          go_wp2_with fail
                          go_quiet (fail)
                          go_wp2_with fail
                          exact ⟨⟨i + 1, by omega, by go_num, HIn2.out, HY.out.1, bel_drewN HY.out.2.1 _, HY.out.2.2, hN5⟩, by simp [intOf]; omega⟩
                    · obtain rfl : i = dzb.length := by omega
                      have HOk2 : Hid (∀ j, j < k + 1 → ∀ i, i < (arz bs j).2.2.2.length → 0 ≤ nth (arz bs j).2.2.2 i ∧ nth (arz bs j).2.2.2 i < nth sz j) := HOk.out (by rw [HDz.out, HZ0.out]; exact HIn.out)
                      clear hin hX hB hG
                      go_wp2_with fail
                      exact ⟨⟨k + 1, by omega, by go_num, HOk2.out, HY.out.1, HY.out.2.1, HY.out.2.2, hN5⟩, by simp [intOf]; omega⟩
                · obtain rfl : k = bs.length := by omega
                  have HE : Hid (nmE sz (bya bs) = 0) := nmE_zero.2 ⟨by rw [bya_length]; exact HLn.out, HC.out, by rw [← HD.out]; exact HED.out, ix_ok bs sz HAl.out⟩
                  have HIx : Hid (∀ t, insB D t = true → insB sz (pkT (bya bs) t) = true) := fun t ht => pkT_in (by rw [bya_length]; exact HLn.out) HI.out.2.2.1 (ix_ok bs sz HAl.out) (by rw [← HD.out]; exact ht)
                  obtain ⟨q, hq⟩ : ∃ q : Nat, prod D = q := ⟨(prod D).toNat, by have := prod_nonneg (errOf_zero.1 HED.out).2.1; omega⟩
                  have hq4 : q ≤ 4096 := by have := (errOf_zero.1 HED.out).2.2; omega
                  obtain ⟨P, hP⟩ : ∃ P, P = plL sz (bya bs) := ⟨_, rfl⟩
                  have HP : Hid (P = plL sz (bya bs) ∧ P.length = q ∧ prod D = q) := ⟨hP, by rw [hP, plL_length, ← HD.out]; omega, hq⟩
                  have HPn : Hid (∀ i, i < q → nth P i = place sz (pkT (bya bs) (cr D i))) := fun i hi => by
                    rw [hP, plL_nth _ _ (by rw [← HD.out]; omega)]
                    unfold pkP
                    rw [HD.out]
                  have hPq : P.length ≤ q ∧ q ≤ P.length := by have := HP.out.2.1; omega
                  obtain ⟨v3, hv3⟩ : ∃ v3, v3 = wr := ⟨_, rfl⟩
                  subst hv3
                  have HW3 : Hid (MidInts (w.heap.size + 1) v3.heap.size v3 g D ∧ D.length ≤ gc) := ⟨HX.out.2.2.1.mid, HX.out.2.2.2⟩
                  clear hlt HAl hq hP
                  go_wp2_with fail
                  refine (cells_k g gc D D.length q rfl HP.out.2.2 (by omega) HED.out v3.heap.size v3 HX.out.2.2.1.ints).mono ?_
                  rintro e v9 ⟨rfl, hv9⟩
                  obtain rfl := hv9.symm
                  have hmk := run_make_row' (P := Tryd.prog) 22 3 (.int .i64 0) 8 Tryd.underlying22 Tryd.infoInt rfl .i64 .i64 bs.length (by omega) (by omega)
                  have HMK : Hid _ := hmk
                  clear hmk
                  go_wp2_with fail
                  go_loopw [16, 14] (fun i s wr => ∃ (k : Nat) (v : Value), k ≤ q ∧ i = .int .i64 k ∧ v = s ∧ wr.ownsRow v3.heap.size 3 1 v (P.take k).length ((P.take k).map (Value.int .i64)) ∧ Abx wr w.heap.size (.bool c) (.slice sa sz.length sc) (.slice da dz.length dc) ∧ MidInts (w.heap.size + 1) v3.heap.size wr g D ∧ Below w.heap.size w wr ∧ v3.heap.size ≤ wr.heap.size) (fun i _ _ => q - (intOf i).toNat)
                  case atStart => exact ⟨0, .slice none 0 0, Nat.zero_le _, rfl, rfl, World.ownsRow_nil _ _ _ _, HX.out.1, HW3.out.1, HX.out.2.1, Nat.le_refl _⟩
                  case round =>
                    obtain ⟨k, v, hk, rfl, rfl, hown, hX, hM, hB, hs3⟩ := hrel
                    by_cases hlt : k < q
                    · have HKk : Hid ((k : Int) < prod D) := by show _ < _; rw [HP.out.2.2]; omega
                      obtain ⟨u, hu⟩ : ∃ u, u = wr := ⟨_, rfl⟩
                      subst hu
                      have HU : Hid (u.ownsRow v3.heap.size 3 1 v (P.take k).length ((P.take k).map (Value.int .i64)) ∧ Abx u w.heap.size (.bool c) (.slice sa sz.length sc) (.slice da dz.length dc) ∧ MidInts (w.heap.size + 1) v3.heap.size u g D ∧ Below w.heap.size w u) := ⟨hown, hX, hM, hB⟩
                      clear hown hX hM hB
                      go_wp2_with fail
                      refine (coords_k g gc D D.length k rfl HED.out HKk.out u (HU.out.2.2.1.ints.mono hs3)).mono ?_
                      rintro e w2 ⟨B1, rfl, hB1, hrow1, hBc⟩
                      have HT0 : Hid (insB D (cr D k) = true) := (cr_fact HED.out HKk.out).1
                      have HPk : Hid (nth P k = place sz (pkT (bya bs) (cr D k))) := HPn.out k hlt
                      obtain ⟨t, ht⟩ : ∃ t, t = cr D k := ⟨_, rfl⟩
                      rw [← ht] at HT0 HPk hrow1
                      have HR1 : Hid (w2.rowIs B1 3 D.length (fun j => .int .i64 (nth t j)) ∧ Below u.heap.size u w2) := ⟨hrow1, hBc⟩
                      have hB1l : B1 < w2.heap.size := hrow1.lt
                      have HB2 : Hid (Below w.heap.size w w2) := HU.out.2.2.2.trans (hBc.mono HU.out.2.2.2.size)
                      have hu2 : u.heap.size ≤ w2.heap.size := hBc.size
                      have hwu : w.heap.size ≤ u.heap.size := HU.out.2.2.2.size
                      have HTT : Hid (t.length = D.length ∧ (pkT (bya bs) t).length = bs.length) := ⟨insB_len HT0.out, by rw [pkT_length, bya_length]⟩
                      have hmk := HMK.out
                      clear hrow1 hBc ht
                      go_wp2_with fail
                      clear hmk
                      go_loopw [20, 19] (fun kk dn wx => ∃ j : Nat, j ≤ bs.length ∧ kk = .int .i64 j ∧ dn = .int .i64 (offs bs j) ∧ offs bs j ≤ D.length ∧ wx.rowIs w2.heap.size 3 bs.length (upR (nth (pkT (bya bs) t)) j) ∧ Below w2.heap.size w2 wx) (fun kk _ _ => bs.length - (intOf kk).toNat)
                      case atStart => exact ⟨0, Nat.zero_le _, rfl, by rw [offs_zero]; rfl, by rw [offs_zero]; exact Nat.zero_le _, (World.rowIs_made w2 (.int .i64 0) bs.length 3).congr (fun j _ => by simp [upR]), (Below.refl _ w2).alloc (Nat.le_refl _) _⟩
                      case round =>
                        obtain ⟨j, hj, rfl, rfl, ho, hrow, hBx⟩ := hrel
                        by_cases hjl : j < bs.length
                        · have hle := offs_le bs hjl
                          rw [← HD.out] at hle
                          have HBw : Hid (Below w.heap.size w wr) := HB2.out.trans (hBx.mono HB2.out.size)
                          obtain ⟨b, off, rfl, hbb, hcell⟩ := (HI.out.2.1.below HBw.out).at hjl
                          have c1 := (hcell j hjl).2.1
                          have c2 := (hcell j hjl).2.2
                          have HAV : Hid (IsAv w.heap.size wr (arz bs j)) := (HI.out.2.1.below HBw.out).2 j hjl
                          have HFl : Hid (flawE (arz bs j).1 (arz bs j).2.1.2 (arz bs j).2.2.2 = 0) := fl_at bs HI.out.2.2.1 hjl
                          have HOs : Hid (offs bs (j + 1) = offs bs j + (arz bs j).2.1.2.length) := offs_succ bs hjl
                          have HTi : Hid (insB (arz bs j).2.1.2 ((t.drop (offs bs j)).take (arz bs j).2.1.2.length) = true) := part_in bs (by rw [← HD.out]; exact HT0.out) hjl
                          have HPt : Hid (nth (pkT (bya bs) t) j = cel (arz bs j).2.1.2 (arz bs j).2.2.2 ((t.drop (offs bs j)).take (arz bs j).2.1.2.length)) := pkT_at bs t hjl
                          unfold ArV.s at c1
                          unfold ArV.d at c2
                          clear hcell
                          generalize offs bs j = o at *
                          generalize arz bs j = AB at *
                          obtain ⟨cb, ⟨⟨sb, scb⟩, szb⟩, ⟨⟨db, dcb⟩, dzb⟩⟩ := AB
                          dsimp only at c1 c2 HAV HFl HOs HTi HPt hle
                          obtain ⟨T, hT⟩ : ∃ T, T = (t.drop o).take szb.length := ⟨_, rfl⟩
                          rw [← hT] at HTi HPt
                          have HTe : Hid (T = (t.drop o).take szb.length) := hT
                          have hTl : Hid (T.length = szb.length) := by show _ = _; rw [hT, List.length_take, List.length_drop]; have := HTT.out.1; omega
                          obtain ⟨L, hL⟩ : ∃ L : Nat, place szb T = L := ⟨(place szb T).toNat, by have := (place_bd HTi.out).1; omega⟩
                          have hLd : L < dzb.length := by have h1 := (place_bd HTi.out).2; have h2 := (flawE_zero HFl.out).2.1; omega
                          obtain ⟨bd, od, rfl, hbd, hcD⟩ := (HAV.out.2.2.2.1.1).at hLd
                          have cd := hcD L hLd
                          have HVv : Hid (nth dzb L = nth (pkT (bya bs) t) j) := by show _ = _; rw [HPt.out]; unfold cel; rw [hL, Int.toNat_natCast]
                          have HLp : Hid (place szb T = L) := hL
                          obtain ⟨y0, hy0⟩ : ∃ y0, y0 = nth dzb L := ⟨_, rfl⟩
                          rw [← hy0] at cd HVv
                          have c3 := hrow.cell hjl
                          have f3 := hrow.frozen j
                          have hs6 : szb.length ≤ 6 ∧ dzb.length ≤ 4096 := flawE_short HFl.out
                          have HRw : Hid (wr.rowIs w2.heap.size 3 bs.length (upR (nth (pkT (bya bs) t)) j) ∧ Below w2.heap.size w2 wr) := ⟨hrow, hBx⟩
                          clear hL hy0 hcD hrow hBx hT
                          have HEz : Hid (errOf szb = 0) := (flawE_zero HFl.out).1
                          have HSh : Hid (IsInts wr.heap.size wr.drew sb szb) := HAV.out.2.2.1.1.mono HBw.out.size
                          obtain ⟨XA, hXA⟩ : ∃ XA : Option Addr, (if D.length = o then some ⟨B1, 0, none⟩ else some ⟨B1, o, none⟩) = XA := ⟨_, rfl⟩
                          have HTs : Hid (IsInts wr.heap.size wr.drew XA T) := by
                            rw [HTe.out, ← hXA]
                            exact part_ints (W := wr) HTT.out.1 hle (by have := HRw.out.2.size; omega) fun j hj => (HRw.out.2.cell (p := ⟨B1, j, none⟩) hB1l).trans (HR1.out.1.cell hj)
                          have hw1 : IntKind.i64.wrap ((o : Int) + (szb.length : Int)) = (o : Int) + (szb.length : Int) := IntWalk.i64_in _ (by omega)
                          have hw2 : (0 : Int) ≤ (o : Int) + (szb.length : Int) := by omega
                          have hw3 : (o : Int) + (szb.length : Int) ≤ (D.length : Int) := by omega
                          have hw4 : ((o : Int) + (szb.length : Int)).toNat = o + szb.length := by omega
                          go_wp2_with fail
                          refine anyT_begin 21 (fun w' => w'.cell? ⟨b, off + j * 3 + 1, none⟩ = some (.slice sb szb.length scb) ∧ w'.cell? ⟨b, off + j * 3 + 2, none⟩ = some (.slice (some ⟨bd, od, none⟩) dzb.length dcb) ∧ w'.cell? ⟨bd, od + L, none⟩ = some (.int .i64 y0)) 23 #[false, false, false, false, false, false, false, false, false, false, false, false, false, false, false, false, false, false, false, false, false, false, false] (by kernel_rfl) rfl rfl ?_
                          refine anyT_put 0 137 ?rv0 #[true, false, false, false, false, false, false, false, false, false, false, false, false, false, false, false, false, false, false, false, false, false, false] rfl rfl rfl (by kernel_rfl) (by kernel_rfl) (by kernel_rfl) (fun _ _ _ h => h) (by decide) ?ry0 (fun _ => ⟨c1, c2, cd⟩) ?rm0
                          case ry0 => first | exact Or.inl ⟨by rfl, by intro w'; go_simp; first | done | rfl⟩
                          case rm0 =>
                          simp only [Act.put, List.setIfInBounds_toArray, List.set_cons_zero, List.set_cons_succ]
                          refine anyT_put 1 138 ?rv1 #[true, true, false, false, false, false, false, false, false, false, false, false, false, false, false, false, false, false, false, false, false, false, false] rfl rfl rfl (by kernel_rfl) (by kernel_rfl) (by kernel_rfl) (fun _ _ _ h => h) (by decide) ?ry1 (fun _ => ⟨c1, c2, cd⟩) ?rm1
                          case ry1 => first | exact Or.inl ⟨by rfl, by intro w'; go_simp; first | done | rfl⟩
                          case rm1 =>
                          simp only [Act.put, List.setIfInBounds_toArray, List.set_cons_zero, List.set_cons_succ]
                          refine anyT_put 2 139 ?rv2 #[true, true, true, false, false, false, false, false, false, false, false, false, false, false, false, false, false, false, false, false, false, false, false] rfl rfl rfl (by kernel_rfl) (by kernel_rfl) (by kernel_rfl) (fun _ _ _ h => h) (by decide) ?ry2 (fun _ => ⟨c1, c2, cd⟩) ?rm2
                          case ry2 => first | exact Or.inl ⟨by rfl, by intro w'; go_simp; first | done | rfl⟩
                          case rm2 =>
                          simp only [Act.put, List.setIfInBounds_toArray, List.set_cons_zero, List.set_cons_succ]
                          refine anyT_put 3 140 ?rv3 #[true, true, true, true, false, false, false, false, false, false, false, false, false, false, false, false, false, false, false, false, false, false, false] rfl rfl rfl (by kernel_rfl) (by kernel_rfl) (by kernel_rfl) (fun _ _ _ h => h) (by decide) ?ry3 (fun _ => ⟨c1, c2, cd⟩) ?rm3
                          case ry3 => first | exact Or.inl ⟨by rfl, by intro w'; go_simp; first | done | rfl⟩
                          case rm3 =>
                          simp only [Act.put, List.setIfInBounds_toArray, List.set_cons_zero, List.set_cons_succ]
                          refine anyT_put 4 141 ?rv4 #[true, true, true, true, true, false, false, false, false, false, false, false, false, false, false, false, false, false, false, false, false, false, false] rfl rfl rfl (by kernel_rfl) (by kernel_rfl) (by kernel_rfl) (fun _ _ _ h => h) (by decide) ?ry4 (fun _ => ⟨c1, c2, cd⟩) ?rm4
                          case ry4 => first | exact Or.inl ⟨by rfl, by intro w'; go_simp; first | done | rfl⟩
                          case rm4 =>
                          simp only [Act.put, List.setIfInBounds_toArray, List.set_cons_zero, List.set_cons_succ]
                          refine anyT_put 5 142 ?rv5 #[true, true, true, true, true, true, false, false, false, false, false, false, false, false, false, false, false, false, false, false, false, false, false] rfl rfl rfl (by kernel_rfl) (by kernel_rfl) (by kernel_rfl) (fun _ _ _ h => h) (by decide) ?ry5 (fun _ => ⟨c1, c2, cd⟩) ?rm5
                          case ry5 => first | exact Or.inl ⟨by rfl, by intro w'; go_simp; first | done | rfl⟩
                          case rm5 =>
                          simp only [Act.put, List.setIfInBounds_toArray, List.set_cons_zero, List.set_cons_succ]
                          refine anyT_take 6 143 ?rv6 #[true, true, true, true, true, true, true, false, false, false, false, false, false, false, false, false, false, false, false, false, false, false, false] rfl rfl rfl (by kernel_rfl) (by kernel_rfl) (by kernel_rfl) (fun _ _ _ h => h) (by kernel_rfl) (by decide) (by kernel_rfl) ?ry6 (⟨c1, c2, cd⟩) ?rm6
                          case ry6 => first | exact Or.inl ⟨by rfl, by intro w' hw'; (try dsimp only at hw'); go_simp; first | done | rfl⟩
                          case rm6 =>
                          simp only [Act.put, List.setIfInBounds_toArray, List.set_cons_zero, List.set_cons_succ]
                          refine anyT_put 7 144 ?rv7 #[true, true, true, true, true, true, true, true, false, false, false, false, false, false, false, false, false, false, false, false, false, false, false] rfl rfl rfl (by kernel_rfl) (by kernel_rfl) (by kernel_rfl) (fun _ _ _ h => h) (by decide) ?ry7 (fun _ => ⟨c1, c2, cd⟩) ?rm7
                          case ry7 => first | exact Or.inl ⟨by rfl, by intro w'; go_simp; first | done | rfl⟩
                          case rm7 =>
                          simp only [Act.put, List.setIfInBounds_toArray, List.set_cons_zero, List.set_cons_succ]
                          refine anyT_put 8 145 ?rv8 #[true, true, true, true, true, true, true, true, true, false, false, false, false, false, false, false, false, false, false, false, false, false, false] rfl rfl rfl (by kernel_rfl) (by kernel_rfl) (by kernel_rfl) (fun _ _ _ h => h) (by decide) ?ry8 (fun _ => ⟨c1, c2, cd⟩) ?rm8
                          case ry8 => first | exact Or.inl ⟨by rfl, by intro w'; go_simp; first | done | rfl⟩
                          case rm8 =>
                          simp only [Act.put, List.setIfInBounds_toArray, List.set_cons_zero, List.set_cons_succ]
                          refine anyT_put 9 146 ?rv9 #[true, true, true, true, true, true, true, true, true, true, false, false, false, false, false, false, false, false, false, false, false, false, false] rfl rfl rfl (by kernel_rfl) (by kernel_rfl) (by kernel_rfl) (fun _ _ _ h => h) (by decide) ?ry9 (fun _ => ⟨c1, c2, cd⟩) ?rm9
                          case ry9 => first | exact Or.inl ⟨by rfl, by intro w'; go_simp; first | done | rfl⟩
                          case rm9 =>
                          simp only [Act.put, List.setIfInBounds_toArray, List.set_cons_zero, List.set_cons_succ]
                          refine anyT_put 10 147 ?rv10 #[true, true, true, true, true, true, true, true, true, true, true, false, false, false, false, false, false, false, false, false, false, false, false] rfl rfl rfl (by kernel_rfl) (by kernel_rfl) (by kernel_rfl) (fun _ _ _ h => h) (by decide) ?ry10 (fun _ => ⟨c1, c2, cd⟩) ?rm10
                          case ry10 => first | exact Or.inl ⟨by rfl, by intro w'; go_simp; first | done | rfl⟩
                          case rm10 =>
                          simp only [Act.put, List.setIfInBounds_toArray, List.set_cons_zero, List.set_cons_succ]
                          refine anyT_take 11 148 ?rv11 #[true, true, true, true, true, true, true, true, true, true, true, true, false, false, false, false, false, false, false, false, false, false, false] rfl rfl rfl (by kernel_rfl) (by kernel_rfl) (by kernel_rfl) (fun _ _ _ h => h) (by kernel_rfl) (by decide) (by kernel_rfl) ?ry11 (⟨c1, c2, cd⟩) ?rm11
                          case ry11 => first | exact Or.inl ⟨by rfl, by intro w' hw'; (try dsimp only at hw'); go_simp; first | done | rfl⟩
                          case rm11 =>
                          simp only [Act.put, List.setIfInBounds_toArray, List.set_cons_zero, List.set_cons_succ]
                          refine anyT_put 12 149 ?rv12 #[true, true, true, true, true, true, true, true, true, true, true, true, true, false, false, false, false, false, false, false, false, false, false] rfl rfl rfl (by kernel_rfl) (by kernel_rfl) (by kernel_rfl) (fun _ _ _ h => h) (by decide) ?ry12 (fun _ => ⟨c1, c2, cd⟩) ?rm12
                          case ry12 => first | exact Or.inl ⟨by rfl, by intro w'; go_simp; first | done | rfl⟩
                          case rm12 =>
                          simp only [Act.put, List.setIfInBounds_toArray, List.set_cons_zero, List.set_cons_succ]
                          refine anyT_put 13 150 ?rv13 #[true, true, true, true, true, true, true, true, true, true, true, true, true, true, false, false, false, false, false, false, false, false, false] rfl rfl rfl (by kernel_rfl) (by kernel_rfl) (by kernel_rfl) (fun _ _ _ h => h) (by decide) ?ry13 (fun _ => ⟨c1, c2, cd⟩) ?rm13
                          case ry13 => first | exact Or.inl ⟨by rfl, by intro w'; go_simp; first | done | rfl⟩
                          case rm13 =>
                          simp only [Act.put, List.setIfInBounds_toArray, List.set_cons_zero, List.set_cons_succ]
                          refine anyT_put 14 151 ?rv14 #[true, true, true, true, true, true, true, true, true, true, true, true, true, true, true, false, false, false, false, false, false, false, false] rfl rfl rfl (by kernel_rfl) (by kernel_rfl) (by kernel_rfl) (fun _ _ _ h => h) (by decide) ?ry14 (fun _ => ⟨c1, c2, cd⟩) ?rm14
                          case ry14 => first | exact Or.inl ⟨by rfl, by intro w'; go_simp; first | done | rfl⟩
                          case rm14 =>
                          simp only [Act.put, List.setIfInBounds_toArray, List.set_cons_zero, List.set_cons_succ]
                          refine anyT_put 15 152 ?rv15 #[true, true, true, true, true, true, true, true, true, true, true, true, true, true, true, true, false, false, false, false, false, false, false] rfl rfl rfl (by kernel_rfl) (by kernel_rfl) (by kernel_rfl) (fun _ _ _ h => h) (by decide) ?ry15 (fun _ => ⟨c1, c2, cd⟩) ?rm15
                          case ry15 => first | exact Or.inl ⟨by rfl, by intro w'; go_simp; first | done | rfl⟩
                          case rm15 =>
                          simp only [Act.put, List.setIfInBounds_toArray, List.set_cons_zero, List.set_cons_succ]
                          refine anyT_put 16 153 ?rv16 #[true, true, true, true, true, true, true, true, true, true, true, true, true, true, true, true, true, false, false, false, false, false, false] rfl rfl rfl (by kernel_rfl) (by kernel_rfl) (by kernel_rfl) (fun _ _ _ h => h) (by decide) ?ry16 (fun _ => ⟨c1, c2, cd⟩) ?rm16
                          case ry16 => first | exact Or.inl ⟨by rfl, by intro w'; go_simp; first | done | rfl⟩
                          case rm16 =>
                          simp only [Act.put, List.setIfInBounds_toArray, List.set_cons_zero, List.set_cons_succ]
                          refine anyT_put 17 154 ?rv17 #[true, true, true, true, true, true, true, true, true, true, true, true, true, true, true, true, true, true, false, false, false, false, false] rfl rfl rfl (by kernel_rfl) (by kernel_rfl) (by kernel_rfl) (fun _ _ _ h => h) (by decide) ?ry17 (fun _ => ⟨c1, c2, cd⟩) ?rm17
                          case ry17 => first | exact Or.inl ⟨by rfl, by intro w'; go_simp; first | done | rfl⟩
                          case rm17 =>
                          simp only [Act.put, List.setIfInBounds_toArray, List.set_cons_zero, List.set_cons_succ]
                          refine anyT_one 18 #[true, true, true, true, true, true, true, true, true, true, true, true, true, true, true, true, true, true, true, false, false, false, false] (by kernel_rfl) rfl rfl (fun K hK => ?_)
                          go_simp
                          go_wp2_with (go_at_call 24; refine (where_n sb scb szb XA (D.length - o) szb.length T hTl.out L HLp.out (by omega) HEz.out HTi.out wr.heap.size wr.drew HSh.out HTs.out).mono ?_; rintro e w3 ⟨rfl, rfl⟩)
                          refine hK.out _ _ (fun _ => ⟨c1, c2, cd⟩) ?_
                          clear hK K
                          refine anyT_put 19 156 ?rv19 #[true, true, true, true, true, true, true, true, true, true, true, true, true, true, true, true, true, true, true, true, false, false, false] rfl rfl rfl (by kernel_rfl) (by kernel_rfl) (by kernel_rfl) (fun _ _ _ h => h) (by decide) ?ry19 (fun _ => ⟨c1, c2, cd⟩) ?rm19
                          case ry19 => first | exact Or.inl ⟨by rfl, by intro w'; go_simp; first | done | rfl⟩
                          case rm19 =>
                          simp only [Act.put, List.setIfInBounds_toArray, List.set_cons_zero, List.set_cons_succ]
                          refine anyT_take 20 157 ?rv20 #[true, true, true, true, true, true, true, true, true, true, true, true, true, true, true, true, true, true, true, true, true, false, false] rfl rfl rfl (by kernel_rfl) (by kernel_rfl) (by kernel_rfl) (fun _ _ _ h => h) (by kernel_rfl) (by decide) (by kernel_rfl) ?ry20 (⟨c1, c2, cd⟩) ?rm20
                          case ry20 => first | exact Or.inl ⟨by rfl, by intro w' hw'; (try dsimp only at hw'); go_simp; first | done | rfl⟩
                          case rm20 =>
                          simp only [Act.put, List.setIfInBounds_toArray, List.set_cons_zero, List.set_cons_succ]
                          refine anyT_one 21 #[true, true, true, true, true, true, true, true, true, true, true, true, true, true, true, true, true, true, true, true, true, true, false] (by kernel_rfl) rfl rfl (fun K hK => ?_)
                          go_simp
                          refine hK.out _ _ (fun h => absurd h (by decide)) ?_
                          clear hK K
                          refine anyT_one 22 #[true, true, true, true, true, true, true, true, true, true, true, true, true, true, true, true, true, true, true, true, true, true, true] (by kernel_rfl) rfl rfl (fun K hK => ?_)
                          go_simp
                          refine hK.out _ _ (fun h => absurd h (by decide)) ?_
                          clear hK K
                          refine anyT_done (by kernel_rfl) ?_
                          go_wp2_with fail
                          refine ⟨⟨j + 1, by omega, by go_num, ?_, by rw [HOs.out]; exact hle, upR_set HRw.out.1 _ HVv.out, (HRw.out.2.setCell (p := ⟨w2.heap.size, j, none⟩) (Nat.le_refl _) _).drew⟩, by simp [intOf]; omega⟩
                          rw [HOs.out]
                          first
                            | go_num
                            | exact int_eq (by omega)
                        · obtain rfl : j = bs.length := by omega
                          have HFr : Hid (NewInts w2.heap.size wr (some ⟨w2.heap.size, 0, none⟩) (pkT (bya bs) t)) := upR_new hrow (Nat.le_refl _) _ HTT.out.2 (fun j _ => rfl)
                          have HBw : Hid (Below w.heap.size w wr) := HB2.out.trans (hBx.mono HB2.out.size)
                          have HRw : Hid (Below w2.heap.size w2 wr) := hBx
                          obtain ⟨L, hL⟩ : ∃ L : Nat, place sz (pkT (bya bs) t) = L := ⟨(place sz (pkT (bya bs) t)).toNat, by have := (place_bd (HIx.out t HT0.out)).1; omega⟩
                          have HLp : Hid (place sz (pkT (bya bs) t) = L) := hL
                          have HAx : Hid (Abx wr w.heap.size (.bool c) (.slice sa sz.length sc) (.slice da dz.length dc)) := ((HU.out.2.1.go HR1.out.2).bel hBx (by omega))
                          have p1 := HAx.out.c1
                          have hwr : w2.heap.size ≤ wr.heap.size := hBx.size
                          have hown2 : wr.ownsRow v3.heap.size 3 1 v (P.take k).length ((P.take k).map (Value.int .i64)) := own_go (own_go HU.out.1 HR1.out.2) hBx
                          clear hrow hBx hL hjl
                          go_wp2_with fail
                          refine (where_n sa sc sz (some ⟨w2.heap.size, 0, none⟩) bs.length bs.length (pkT (bya bs) t) HTT.out.2 L HLp.out (by omega) HI.out.2.2.2 (HIx.out t HT0.out) wr.heap.size wr ((HI.out.1.below HBw.out).mono HBw.out.size) HFr.out.ints).mono ?_
                          rintro e v9 ⟨rfl, hv9⟩
                          obtain rfl := hv9.symm
                          go_wp2_with (first
                            | (at_builtin; go_loud (refine app_list rfl _ _ rfl _ v3.heap.size wr.heap.size v (P.take k) (L : Int) rfl rfl (hown2.alloc _) (heap_alloc_new wr _) (by rw [take_lenR _ (show k ≤ P.length by omega)]; omega) (by simp; omega) ?_; intro g1 gc1 w4 hown1 hB4)))
                          have hV : (L : Int) = nth P k := by rw [HPk.out, HLp.out]
                          rw [hV, ← take_snoc P k (by omega), take_lenR P (show k ≤ P.length by omega)] at hown1
                          have hz4 := hB4.size
                          simp at hz4
                          refine ⟨⟨k + 1, _, by omega, by go_num, rfl, ?_, (HAx.out.al _).bel hB4 (by omega), ?_, (HBw.out.alloc HBw.out.size _).trans (hB4.mono (by omega)), by omega⟩, by simp [intOf]; omega⟩
                          · rw [take_lenR P (show k + 1 ≤ P.length by omega)]
                            have hmin : min k P.length = k := by omega
                            first
                              | exact hown1
                              | (rw [hmin]; exact hown1)
                          · exact (((HU.out.2.2.1.bel (HR1.out.2.mono hs3)).bel (HRw.out.mono (by omega))).al (by omega) _).bel hB4
                    · obtain rfl : k = q := by omega
                      rw [List.take_of_length_le (by omega)] at hown
                      obtain ⟨g1, gc1, rfl, hN1⟩ := owns_new hown
                      have HF : Hid (NewC w.heap.size wr g D gc ∧ NewInts w.heap.size wr g1 P ∧ Below w.heap.size w wr) := ⟨⟨(hM.new hs3).low (by omega), HW3.out.2⟩, hN1.low (by omega), hB⟩
                      clear hown hX hM hB hN1
                      go_wp2_with fail
                      refine bodyPost_ret (v := .tuple #[.slice g D.length gc, .slice g1 P.length gc1, .int .i64 0]) (by simp [results, Tryd.results11, go_sem]) rfl ?_
                      have h1 := HD.out
                      have h2 := HP.out.1
                      unfold UN
                      rw [onl_ok HE.out, onl_ok HE.out, HE.out, ← h1, ← h2]
                      exact ⟨g, gc, g1, gc1, rfl, HF.out.1, HF.out.2.1, HF.out.2.2⟩
            · have t0 : (errOf D != 0) = true := by simpa using hE
              have HE : Hid (nmE sz (bya bs) = errOf D) := by show _ = _; unfold nmE; rw [if_neg (by rw [bya_length]; simpa using HLn.out), if_neg (by rw [HC.out]; decide), if_pos (by rw [← HD.out]; exact hE), HD.out]
              have HED : Hid (errOf D ≠ 0) := hE
              clear hE
              go_wp2_with fail
              refine bodyPost_ret (v := .tuple #[.slice none 0 0, .slice none 0 0, .int .i64 (errOf D)]) (by simp [results, Tryd.results11, go_sem]) rfl ?_
              exact UN.no HE.out HED.out HW2.out.2.1
  · have tl : ((bs.length : Int) != (sz.length : Int)) = true := by simp; omega
    have HE : Hid (nmE sz (bya bs) = 3) := by show _ = _; unfold nmE; rw [if_pos (by rw [bya_length]; exact hlen)]
    clear hlen
    go_wp2_with fail
    refine bodyPost_ret (v := .tuple #[.slice none 0 0, .slice none 0 0, .int .i64 3]) (by simp [results, Tryd.results11, go_sem]) rfl ?_
    exact UN.no HE.out (by decide) HW0.out.2
end Go.Proofs.YtlflacoiidhgoaaDoor
