/-
  The reference's order.
-/
import Derived.BigQuiet
import Derived.Deep.DeepCutAuto
import Derived.Test.YtgaelbgeoobgiaaDoorRgi
import Derived.Test.YtgaelbgeoobgiaaDoorRgj
import Derived.Test.YtgaelbgeoobgiaaDoorRgg
import Derived.Test.YtgaelbgeoobgiaaDoorApps
import Derived.Test.YtgaelbgeoobgiaaDoorBase
namespace Go.Proofs.YtgaelbgeoobgiaaDoor
open Go.RowKit
set_option linter.unusedVariables false

/-- The least one from the end that is so, of so many. -/
def dnB (p : Nat → Bool) (n : Nat) : Nat → Nat
  | 0 => n
  | d + 1 => if p (n - (d + 1)) = true then n - (d + 1) else dnB p n d
theorem dnB_spec (p : Nat → Bool) (n : Nat) : ∀ d, d ≤ n → n - d ≤ dnB p n d ∧ dnB p n d ≤ n ∧ (dnB p n d < n → p (dnB p n d) = true) ∧ ∀ q, n - d ≤ q → q < dnB p n d → ¬ p q = true
  | 0, _ => ⟨by rw [dnB]; omega, Nat.le_refl _, fun h => absurd h (by rw [dnB]; omega), fun q h1 h2 => absurd h2 (by rw [dnB]; omega)⟩
  | d + 1, h => by
    obtain ⟨h1, h2, h3, h4⟩ := dnB_spec p n d (by omega)
    rw [dnB]
    by_cases e : p (n - (d + 1)) = true
    · rw [if_pos e]; exact ⟨Nat.le_refl _, by omega, fun _ => e, fun q a b => by omega⟩
    · rw [if_neg e]
      refine ⟨by omega, h2, h3, fun q a b => ?_⟩
      by_cases e2 : q = n - (d + 1)
      · rw [e2]; exact e
      · exact h4 q (by omega) b
theorem dnB_all (p : Nat → Bool) (n : Nat) : dnB p n n = lea p n := by
  obtain ⟨h1, h2, h3, h4⟩ := dnB_spec p n n (Nat.le_refl _)
  by_cases h : dnB p n n < n
  · exact (lea_at h (h3 h) fun j hj => h4 j (by omega) hj).symm
  · rw [lea_no fun j hj => h4 j (by omega) (by omega)]; omega
/-- It waits for one of so many, or is done. -/
def wtB (T : Nat → Bool) (R : Rl) (i j : Nat) : Bool := T i || (List.range j).any fun k => !T k && R k i
theorem wtB_zero (T : Nat → Bool) (R : Rl) (i : Nat) : wtB T R i 0 = T i := by unfold wtB; rw [List.range_zero, List.any_nil, Bool.or_false]
theorem wtB_succ (T : Nat → Bool) (R : Rl) (i j : Nat) : wtB T R i (j + 1) = (wtB T R i j || (!T j && R j i)) := by unfold wtB; rw [List.range_succ, List.any_append, List.any_cons, List.any_nil, Bool.or_false]; simp only [Bool.or_assoc]
theorem wtB_all (T : Nat → Bool) (R : Rl) (n i : Nat) : rdyT R n T i = !wtB T R i n := by
  unfold rdyT wtB
  rw [Bool.not_or, List.not_any_eq_all_not]
  congr 2
  funext k
  cases T k <;> cases R k i <;> rfl
/-- An order, or that there is none, as the reference tells it. -/
def OrdR (n : Nat) (o : Option (List Nat)) (w : World) (r : Ending) (w' : World) : Prop := match o with
  | some p => ∃ xa xc, r = .returned (.tuple #[.slice xa n xc, .bool true]) ∧ NewC w.heap.size w' xa (inL p) xc ∧ Below w.heap.size w w'
  | none => r = .returned (.tuple #[.slice none 0 0, .bool false]) ∧ Below w.heap.size w w'
theorem ptt_val {T : Nat → Bool} {x j : Nat} : Value.bool (ptt T x true j) = if j = x then .bool true else .bool (T j) := by
  unfold ptt
  by_cases e : j = x
  · rw [if_pos e, if_pos e]
  · rw [if_neg e, if_neg e]
/-- How long a slice is. -/
def lenV15 : Value → Nat
  | .slice _ n _ => n
  | _ => 0
theorem infoBool15 : (Tryd.prog.info? 4).map (fun i => (i.zero, i.size, i.bytes)) = some (some (.bool false), 1, 1) := by kernel_rfl
set_option maxRecDepth 100000 in
set_option maxHeartbeats 2000000 in
theorem ordered_ref (n : Nat) (hn : n ≤ 24) (da : Option Addr) (dc : Nat) (dz : List Int) (m : Nat) (hm : dz.length = m) (hl : dz.length = n * n) (w : World) (hd : IsInts w.heap.size w da dz) :
    Calls Tryd.prog 14 #[.int .i64 (n : Nat), .slice da m dc] w (OrdR n (tp (rdR n dz) n n []) w) := by
  obtain ⟨O, hO⟩ : ∃ O, O = tp (rdR n dz) n n [] := ⟨_, rfl⟩
  rw [← hO]
  obtain ⟨N, hN⟩ : ∃ N, N = n * n := ⟨_, rfl⟩
  have h576 : N ≤ 576 := by have : n * n ≤ 24 * 24 := Nat.mul_le_mul hn hn; omega
  have hmul : (n : Int) * (n : Int) = (N : Int) := by rw [hN]; simp
  obtain rfl : m = N := by omega
  obtain ⟨R, hR⟩ : ∃ R, R = rdR n dz := ⟨_, rfl⟩
  have HR : Hid (R = rdR n dz) := hR
  have HN : Hid (dz.length = m ∧ m = n * n ∧ ∀ a, a < n → ∀ b, b < n → R a b = (nth dz (a * n + b) == 1)) := ⟨hm, hN, fun a ha b hb => by rw [hR]; exact rdR_at ha hb⟩
  have HI : Hid (IsInts w.heap.size w da dz) := hd
  clear hd hm hl hN hR
  have HO : Hid (O = tp R n n []) := by rw [← HR.out] at hO; exact hO
  clear hO
  have hmk := run_make_row' (P := Tryd.prog) 57 4 (.bool false) 1 Tryd.underlying57 infoBool15 rfl .i64 .i64 n (by omega) (by omega)
  go_enter Tryd.func14, Tryd.ntmps14
  go_wp2_with fail
  clear hmk
  go_loopw [6] (fun v wr => ∃ (l : List Nat) (T : Nat → Bool), wr.ownsRow (w.heap.size + 1) 3 1 v (inL l).length ((inL l).map (Value.int .i64)) ∧ wr.rowIs w.heap.size 4 n (fun j => .bool (T j)) ∧ Below w.heap.size w wr ∧ w.heap.size + 1 ≤ wr.heap.size ∧ Hid (l.length ≤ n ∧ (T = fun a => l.contains a) ∧ tp R n (n - l.length) l = O)) (fun v _ => n - lenV15 v)
  case atStart => exact ⟨[], fun _ => false, World.ownsRow_nil _ _ _ _, World.rowIs_made w (.bool false) n 4, (Below.refl _ w).alloc (Nat.le_refl _) _, by simp, Nat.zero_le _, rfl, HO.out.symm⟩
  case round =>
    obtain ⟨l, T, hown, hrow, hB, hz, HF⟩ := hrel
    obtain ⟨g, gc, rfl, hN⟩ := own_cap hown
    obtain ⟨wl, hwl⟩ : ∃ x, x = wr := ⟨_, rfl⟩
    subst hwl
    have HQ : Hid (wl.ownsRow (w.heap.size + 1) 3 1 (.slice g (inL l).length gc) (inL l).length ((inL l).map (Value.int .i64)) ∧ wl.rowIs w.heap.size 4 n (fun j => .bool (T j)) ∧ Below w.heap.size w wl ∧ w.heap.size + 1 ≤ wl.heap.size) := ⟨hown, hrow, hB, hz⟩
    have HNn : Hid (NewC (w.heap.size + 1) wl g (inL l) gc) := hN
    have hzl : w.heap.size + 1 ≤ wl.heap.size := hz
    clear hown hrow hB hN hz
    obtain ⟨L, hL⟩ : ∃ L, L = (inL l).length := ⟨_, rfl⟩
    have HL : Hid (L = (inL l).length ∧ L = l.length) := ⟨hL, by rw [hL, inL_len]⟩
    have hL2 : L ≤ n := by rw [HL.out.2]; exact HF.out.1
    rw [← hL]
    clear hL
    by_cases hlt : L < n
    · have HE : Hid (O = if nxi R n l < n then tp R n (n - l.length - 1) (l ++ [nxi R n l]) else none) := by show _ = _; rw [← HF.out.2.2]; exact tp_step (by have := HL.out.2; omega)
      obtain ⟨p, hp⟩ : ∃ p, p = rdyT R n T := ⟨_, rfl⟩
      have HPp : Hid (p = rdyT R n T) := hp
      clear hp
      go_wp2_with fail
      go_loopw [8, 9] (fun x q wr => wr = wl ∧ ∃ d : Nat, d ≤ n ∧ q = .int .i64 ((n : Int) - 1 - (d : Int)) ∧ x = .int .i64 ((dnB p n d : Nat) : Int)) (fun _ q _ => (intOf q + 1).toNat)
      case atStart => exact ⟨by first | trivial | rfl, 0, Nat.zero_le _, by go_num, rfl⟩
      case round =>
        obtain ⟨hwr, d, hd, rfl, rfl⟩ := hrel
        obtain rfl := hwr.symm
        by_cases hdl : d < n
        · obtain ⟨i, hi⟩ : ∃ i : Nat, (n : Int) - 1 - (d : Int) = (i : Int) := ⟨n - 1 - d, by omega⟩
          have hin : i < n := by omega
          have hid : i = n - (d + 1) := by omega
          have HID : Hid ((n : Int) - 1 - ((d + 1 : Nat) : Int) = (i : Int) - 1) := by show _ = _; omega
          rw [hi]
          have HDn : Hid (dnB p n (d + 1) = if p i = true then i else dnB p n d) := by show _ = _; rw [dnB, ← hid]
          clear hi hid
          have c0 := HQ.out.2.1.cell hin
          go_wp2_with fail
          clear c0
          go_loopw [10, 11] (fun v q wr => wr = wl ∧ ∃ j : Nat, j ≤ n ∧ q = .int .i64 (j : Nat) ∧ v = .bool (wtB T R i j)) (fun _ q _ => n - (intOf q).toNat)
          case atStart => exact ⟨by first | trivial | rfl, 0, Nat.zero_le _, rfl, by rw [wtB_zero]⟩
          case round =>
            obtain ⟨hwr, j, hj, rfl, rfl⟩ := hrel
            obtain rfl := hwr.symm
            by_cases hjl : j < n
            · obtain ⟨K, hK⟩ : ∃ K, K = j * n := ⟨_, rfl⟩
              have hKi : (j : Int) * (n : Int) = (K : Int) := by rw [hK]; simp
              have hKj : K + i < m := by rw [hK, HN.out.2.1]; exact row_lt hjl hin
              obtain ⟨bd, od, rfl, _, hcd⟩ := (HI.out.below HQ.out.2.2.1).at (q := K + i) (by rw [HN.out.1]; exact hKj)
              have c2 := hcd (K + i) (by rw [HN.out.1]; exact hKj)
              have c1 := HQ.out.2.1.cell hjl
              obtain ⟨x, hx⟩ : ∃ x, x = nth dz (K + i) := ⟨_, rfl⟩
              rw [← hx] at c2
              obtain ⟨y, hy⟩ : ∃ y, T j = y := ⟨_, rfl⟩
              rw [hy] at c1
              have HX : Hid (wtB T R i (j + 1) = (wtB T R i j || (!y && (x == 1)))) := by show _ = _; rw [wtB_succ, hy, HN.out.2.2 j hjl i hin, hx, hK]
              clear hx hy hK hcd
              cases y
              · by_cases hx1 : x = 1
                · have t1 : (x == 1) = true := by simpa using hx1
                  have HT : Hid (wtB T R i (j + 1) = true) := by show _ = _; rw [HX.out, t1]; simp
                  clear hx1 HX
                  go_wp2_with fail
                  exact ⟨⟨by first | trivial | rfl, j + 1, by omega, by go_num, by rw [HT.out]⟩, by simp [intOf]; omega⟩
                · have t1 : (x == 1) = false := by simpa using hx1
                  have HT : Hid (wtB T R i (j + 1) = wtB T R i j) := by show _ = _; rw [HX.out, t1]; simp
                  clear hx1 HX
                  go_wp2_with fail
                  exact ⟨⟨by first | trivial | rfl, j + 1, by omega, by go_num, by rw [HT.out]⟩, by simp [intOf]; omega⟩
              · have HT : Hid (wtB T R i (j + 1) = wtB T R i j) := by show _ = _; rw [HX.out]; simp
                clear HX
                go_wp2_with fail
                exact ⟨⟨by first | trivial | rfl, j + 1, by omega, by go_num, by rw [HT.out]⟩, by simp [intOf]; omega⟩
            · obtain rfl : j = n := by omega
              have HW : Hid (p i = !wtB T R i j) := by show _ = _; rw [HPp.out, wtB_all]
              generalize wtB T R i j = z at *
              cases z
              · have HT : Hid (dnB p j (d + 1) = i) := by show _ = _; rw [HDn.out, if_pos (by rw [HW.out]; rfl)]
                clear HW HDn
                go_wp2_with fail
                exact ⟨⟨by first | trivial | rfl, d + 1, by omega, by rw [HID.out], by rw [HT.out]⟩, by simp [intOf] <;> omega⟩
              · have HT : Hid (dnB p j (d + 1) = dnB p j d) := by show _ = _; rw [HDn.out, if_neg (by rw [HW.out]; decide)]
                clear HW HDn
                go_wp2_with fail
                exact ⟨⟨by first | trivial | rfl, d + 1, by omega, by rw [HID.out], by rw [HT.out]⟩, by simp [intOf] <;> omega⟩
        · obtain rfl : d = n := by omega
          have hneg : (d : Int) - 1 - (d : Int) = -1 := by omega
          obtain ⟨x, hx⟩ : ∃ x, x = nxi R d l := ⟨_, rfl⟩
          have hx2 : dnB p d d = x := by rw [dnB_all, HPp.out, HF.out.2.1, hx]; rfl
          have hxd : x ≤ d := by rw [← hx2]; exact (dnB_spec p d d (Nat.le_refl _)).2.1
          rw [hx2, hneg]
          rw [← hx] at HE
          have HXx : Hid (x = nxi R d l) := hx
          clear hx hx2 hneg hdl
          by_cases hxn : x < d
          · have t1 : ((x : Int) == (d : Int)) = false := by simp; omega
            have HE2 : Hid (tp R d (d - (l ++ [x]).length) (l ++ [x]) = O) := by show _ = _; rw [HE.out, if_pos hxn, List.length_append]; rfl
            have f0 := HQ.out.2.1.frozen x
            have c0 := HQ.out.2.1.cell hxn
            obtain ⟨w3, HW3⟩ : ∃ y, Hid (y = wl.setCell ⟨w.heap.size, x, none⟩ (.bool true)) := ⟨_, rfl⟩
            have hz3 : w3.heap.size = wl.heap.size := by rw [HW3.out]; simp [World.setCell]
            have HQ4 : Hid (w3.ownsRow (w.heap.size + 1) 3 1 (.slice g (inL l).length gc) (inL l).length ((inL l).map (Value.int .i64)) ∧ w3.rowIs w.heap.size 4 d (fun j => .bool ((ptt T x true) j)) ∧ Below w.heap.size w w3 ∧ w.heap.size + 1 ≤ w3.heap.size) := by
              rw [HW3.out]
              refine ⟨own_s15 HQ.out.1 (a := ⟨w.heap.size, x, none⟩) (by show w.heap.size < w.heap.size + 1; omega) _, (HQ.out.2.1.set x (.bool true)).congr fun j hj => ?_, HQ.out.2.2.1.setCell (p := ⟨w.heap.size, x, none⟩) (Nat.le_refl _) _, by simp [World.setCell]; omega⟩
              rw [ptt_val]
              try rfl
            have HNW : Hid ((w3.alloc (.cells #[.int .i64 (x : Int)] 3)).heap[wl.heap.size]? = some (.cells #[.int .i64 (x : Int)] 3 (0, 0))) := by have := heap_alloc_new w3 (.cells #[.int .i64 (x : Int)] 3); rwa [hz3] at this
            clear HE
            go_upto_region 19 with fail
            rw [← HW3.out, HL.out.1]
            obtain ⟨Q, hQ2⟩ : ∃ Q, Q = inL l := ⟨_, rfl⟩
            have HQ5 : Hid (w3.ownsRow (w.heap.size + 1) 3 1 (.slice g Q.length gc) Q.length (Q.map (Value.int .i64))) := by rw [hQ2]; exact HQ4.out.1
            have HLN : Hid (Q.length ≤ 24) := by show _ ≤ _; rw [hQ2, ← HL.out.1]; omega
            have HQe : Hid (Q = inL l) := hQ2
            rw [← hQ2]
            clear hQ2
            go_wp2_with (at_builtin; refine app_list rfl _ _ rfl _ (w.heap.size + 1) wl.heap.size (.slice g Q.length gc) Q (x : Int) rfl rfl (HQ5.out.alloc _) HNW.out (by have := HLN.out; omega) (by simp; omega) ?_; intro g1 gc1 w4 hown1 hB3)
            have hall : Below (w.heap.size + 1) w3 w4 := ((Below.refl _ _).alloc (by omega) _).trans hB3
            go_roundw
            case rel =>
              refine ⟨l ++ [x], ptt T x true, ?_, HQ4.out.2.1.of_block (hall.block w.heap.size (by omega)), HQ4.out.2.2.1.trans (hall.mono (by omega)), by have := hall.size; omega, by rw [List.length_append]; have := HL.out.2; simp; omega, by rw [HF.out.2.1, con_put], HE2.out⟩
              rw [inL_app, List.length_append, ← HQe.out]
              exact hown1
            case measure => show d - (Q.length + 1) < d - _; have := HL.out.1; rw [← HQe.out] at this; simp [lenV15]; omega
          · obtain rfl : x = d := by omega
            have t1 : ((x : Int) == (x : Int)) = true := by simp
            have HE2 : Hid (O = none) := by show _ = _; rw [HE.out, if_neg hxn]
            clear HE
            go_wp2_with fail
            go_ret2
            rw [HE2.out]
            exact ⟨rfl, HQ.out.2.2.1⟩
    · have hLn : l.length = n := by have := HL.out.2; omega
      have HE2 : Hid (O = some l) := by show _ = _; rw [← HF.out.2.2, hLn, Nat.sub_self]; rfl
      obtain rfl : L = n := by omega
      clear hLn
      go_wp2_with fail
      go_ret2
      rw [HE2.out]
      exact ⟨g, gc, rfl, HNn.out.lowc (by omega), HQ.out.2.2.1⟩
end Go.Proofs.YtgaelbgeoobgiaaDoor
