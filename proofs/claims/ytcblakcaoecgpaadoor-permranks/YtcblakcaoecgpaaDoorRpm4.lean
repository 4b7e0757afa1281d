/-
  The document's answers on orders: the order of a rank; so many times.
-/
import Derived.Test.YtcblakcaoecgpaaDoorRpm3
namespace Go.Proofs.YtcblakcaoecgpaaDoor
open Go.RowKit
set_option linter.unusedVariables false

theorem infoBool9 : (Tryd.prog.info? 4).map (fun i => (i.zero, i.size, i.bytes)) = some (some (.bool false), 1, 1) := by kernel_rfl
set_option maxRecDepth 100000 in
set_option maxHeartbeats 4000000 in
theorem unranked_any (n k : Int) (hn0 : 0 ≤ n) (hn1 : n ≤ 12) (hk0 : 0 ≤ k) (hk1 : k < fac n.toNat) (w : World) :
    Calls Tryd.prog 26 #[.int .i64 n, .int .i64 k] w (LsP (ur n.toNat (idn n.toNat) k.toNat) w) := by
  obtain ⟨N, hN⟩ : ∃ N : Nat, n = N := ⟨n.toNat, by omega⟩
  obtain ⟨K, hK⟩ : ∃ K : Nat, k = K := ⟨k.toNat, by omega⟩
  subst hN hK
  rw [Int.toNat_natCast] at hk1 ⊢
  rw [Int.toNat_natCast]
  have hK2 : K < fac N := by omega
  have hf12 := fac_le12 N (by omega)
  obtain ⟨L, hL⟩ : ∃ L, L = ur N (idn N) K := ⟨_, rfl⟩
  rw [← hL]
  have HL : Hid (L.length = N ∧ UrI N L 0 (fun _ => false) K) := by rw [hL]; exact ⟨ur_length _ _ _, UrI.start hK2⟩
  clear hL hk1
  have hmk := run_make_row' (P := Tryd.prog) 61 4 (.bool false) 1 Tryd.underlying61 infoBool9 rfl .i64 .i64 N (by omega) (by omega)
  go_enter Tryd.func26, Tryd.ntmps26
  go_wp2_with fail
  clear hmk
  go_loopw [1, 5, 7] (fun kk v i wr => ∃ (t r : Nat) (us : Nat → Bool), t ≤ N ∧ i = .int .i64 t ∧ kk = .int .i64 r ∧ wr.ownsRow (w.heap.size + 1) 3 1 v (L.take t).length ((L.take t).map (Value.int .i64)) ∧ wr.rowIs w.heap.size 4 N (fun j => .bool (us j)) ∧ Hid (UrI N L t us r) ∧ Below w.heap.size w wr) (fun _ _ i _ => N - (intOf i).toNat)
  case atStart => exact ⟨0, K, fun _ => false, Nat.zero_le _, rfl, rfl, World.ownsRow_nil _ _ _ _, World.rowIs_made w (.bool false) N 4, HL.out.2, (Below.refl _ w).alloc (Nat.le_refl _) _⟩
  case round =>
    obtain ⟨t, r, us, ht, rfl, rfl, hown, hrow, HU, hB⟩ := hrel
    obtain ⟨V, hV⟩ : ∃ V, V = wr := ⟨_, rfl⟩
    subst hV
    obtain ⟨X, hX⟩ : ∃ X, X = u5 := ⟨_, rfl⟩
    subst hX
    by_cases hlt : t < N
    · obtain ⟨E, hE⟩ : ∃ E, E = fac (N - 1 - t) := ⟨_, rfl⟩
      have HE : Hid (E = fac (N - 1 - t) ∧ E ≤ 479001600 ∧ 0 < E) := ⟨hE, by rw [hE]; exact fac_le12 _ (by omega), by rw [hE]; exact fac_pos _⟩
      have hE2 := HE.out.2.1
      have hr12 : r ≤ 479001600 := Nat.le_of_lt (Nat.lt_of_lt_of_le HU.out.2.1 (fac_le12 _ (by omega)))
      have HW : Hid (V.ownsRow (w.heap.size + 1) 3 1 X (L.take t).length ((L.take t).map (Value.int .i64))) := hown
      have HR : Hid (V.rowIs w.heap.size 4 N (fun j => .bool (us j))) := hrow
      have HB : Hid (Below w.heap.size w V) := hB
      have hV1 : w.heap.size + 1 ≤ V.heap.size := hrow.lt
      clear hE hown hrow hB
      go_wp2_with fail
      refine (fact_any _ (by omega) (by omega) _).mono ?_
      rintro e w1 ⟨rfl, rfl⟩
      rw [show ((N : Int) - 1 - (t : Int)).toNat = N - 1 - t by omega, ← HE.out.1]
      go_wp2_with fail
      go_loopw [1, 5, 9] (fun kk v c wr => ∃ cc r' : Nat, cc ≤ N ∧ c = .int .i64 cc ∧ kk = .int .i64 r' ∧ Hid (r' + (unl us cc).length * E = r) ∧ X = v ∧ wr = w1) (fun _ _ c _ => N - (intOf c).toNat)
      case atStart => exact ⟨0, r, Nat.zero_le _, rfl, rfl, by show _ = _; simp [unl], rfl, rfl⟩
      case round =>
        obtain ⟨cc, r', hcc, rfl, rfl, HS, rfl, hv⟩ := hrel
        obtain rfl := hv.symm
        clear hv
        by_cases hcl : cc < N
        · have hcell := HR.out.cell hcl
          have hfr := HR.out.frozen cc
          have hr' : r' ≤ 479001600 := by have := HS.out; omega
          cases hu : us cc
          · rw [hu] at hcell
            by_cases he : r' < E
            · have hd : decide (r' < E) = true := decide_eq_true he
              have HF : Hid (L.take (t + 1) = L.take t ++ [(cc : Int)] ∧ UrI N L (t + 1) (usS us cc) r') := HU.out.found HL.out.1 hlt hcl hu rfl (by rw [← HE.out.1]; exact HS.out) (by rw [← HE.out.1]; exact he)
              have HW2 : Hid ((w1.setCell ⟨w.heap.size, cc, none⟩ (.bool true)).ownsRow (w.heap.size + 1) 3 1 X (L.take t).length ((L.take t).map (Value.int .i64))) := own_set HW.out (a := ⟨w.heap.size, cc, none⟩) (by show w.heap.size < _; omega) _
              have HR2 : Hid ((w1.setCell ⟨w.heap.size, cc, none⟩ (.bool true)).rowIs w.heap.size 4 N (fun j => .bool (usS us cc j))) := (HR.out.set cc (.bool true)).congr (fun j hj => by
                unfold usS
                by_cases e : j = cc
                · subst e; simp
                · simp [e])
              have HB2 : Hid (Below w.heap.size w (w1.setCell ⟨w.heap.size, cc, none⟩ (.bool true))) := HB.out.setCell (p := ⟨w.heap.size, cc, none⟩) (Nat.le_refl _) _
              have hz2 : w.heap.size + 1 ≤ (w1.setCell ⟨w.heap.size, cc, none⟩ (.bool true)).heap.size := by simpa [World.setCell] using hV1
              have HLn : Hid ((L.take t).length ≤ 12) := by show _ ≤ _; rw [List.length_take]; omega
              have HNW : Hid (((w1.setCell ⟨w.heap.size, cc, none⟩ (.bool true)).alloc (.cells #[.int .i64 (cc : Int)] 3)).heap[w1.heap.size]? = some (.cells #[.int .i64 (cc : Int)] 3 (0, 0))) := by
                have := heap_alloc_new (w1.setCell ⟨w.heap.size, cc, none⟩ (.bool true)) (.cells #[.int .i64 (cc : Int)] 3)
                rw [show (w1.setCell ⟨w.heap.size, cc, none⟩ (.bool true)).heap.size = w1.heap.size by simp [World.setCell]] at this
                exact this
              clear hu
              generalize L.take t = Q at *
              go_wp2_with (at_builtin; refine app_list rfl _ _ rfl _ (w.heap.size + 1) w1.heap.size X Q (cc : Int) rfl rfl (HW2.out.alloc _) HNW.out (by have := HLn.out; omega) (by simp; omega) ?_; intro g1 gc1 w3 hown1 hB3)
              have hall : Below (w.heap.size + 1) (w1.setCell ⟨w.heap.size, cc, none⟩ (.bool true)) w3 := ((Below.refl _ _).alloc hz2 _).trans hB3
              refine ⟨⟨t + 1, r', usS us cc, by omega, by go_num, rfl, ?_, HR2.out.of_block (hall.block w.heap.size (by omega)), HF.out.2, HB2.out.trans (hall.mono (by omega))⟩, by simp [intOf]; omega⟩
              rw [HF.out.1, List.length_append]
              exact hown1
            · have hd : decide (r' < E) = false := decide_eq_false he
              obtain ⟨r2, hr2⟩ : ∃ r2 : Nat, r' = r2 + E := ⟨r' - E, by omega⟩
              have HN : Hid (r2 + (unl us (cc + 1)).length * E = r) := by
                have h := HS.out
                have e : (unl us (cc + 1)).length = (unl us cc).length + 1 := by simp only [unl]; rw [if_neg (by rw [hu]; decide), List.length_append]; rfl
                show _ = _
                rw [e, Nat.add_mul, Nat.one_mul]
                omega
              subst hr2
              clear hu HS
              go_wp2_with fail
              exact ⟨⟨cc + 1, r2, by omega, by go_num, by go_num, HN.out, rfl, by first | rfl | trivial⟩, by simp [intOf]; omega⟩
          · rw [hu] at hcell
            have HN : Hid (r' + (unl us (cc + 1)).length * E = r) := by
              have h := HS.out
              show _ = _
              simp only [unl]
              rw [if_pos hu]; exact h
            clear hu HS
            go_wp2_with fail
            exact ⟨⟨cc + 1, r', by omega, by go_num, rfl, HN.out, rfl, by first | rfl | trivial⟩, by simp [intOf]; omega⟩
        · obtain rfl : cc = N := by omega
          exact (HU.out.not_all hlt (by rw [← HE.out.1]; exact HS.out)).elim
    · obtain rfl : t = N := by omega
      rw [List.take_of_length_le (by rw [HL.out.1]; exact Nat.le_refl _)] at hown
      obtain ⟨g, gc, rfl, hN⟩ := own_cap hown
      clear hown
      go_wp2_with fail
      go_ret
      exact ⟨g, gc, rfl, hN.low (by omega), hB⟩
end Go.Proofs.YtcblakcaoecgpaaDoor
