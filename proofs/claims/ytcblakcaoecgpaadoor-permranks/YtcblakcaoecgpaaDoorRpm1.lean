/-
  The document's answers on orders: is it one, turned round, one by another one; what the statements ask of two lists.
-/
import Derived.Test.YtcblakcaoecgpaaDoorPrmv
import Derived.Test.YtcblakcaoecgpaaDoorOnc9
import Derived.Test.YtcblakcaoecgpaaDoorApps
import Derived.Test.YtcblakcaoecgpaaDoorErr
namespace Go.Proofs.YtcblakcaoecgpaaDoor
open Go.RowKit
set_option linter.unusedVariables false

theorem ret_int1 {a b : Int} (h : a = b) : Ending.returned (.int .i64 a) = .returned (.int .i64 b) := by rw [h]
/-- A list that is told. -/
def LsP (L : List Int) (w : World) (r : Ending) (w' : World) : Prop := ∃ g gc, r = .returned (.slice g L.length gc) ∧ NewC w.heap.size w' g L gc ∧ Below w.heap.size w w'
set_option maxRecDepth 100000 in
set_option maxHeartbeats 1000000 in
theorem ofault_any (a : Option Addr) (cap : Nat) (p : List Int) (h1 : p.length ≤ 9223372036854775807) (n₀ : Nat) (w : World) (hI : IsInts n₀ w a p) :
    Calls Tryd.prog 7 #[.slice a p.length cap] w fun e w' => e = .returned (.int .i64 (orE p)) ∧ w' = w := by
  obtain ⟨E, hE⟩ : ∃ E, E = orE p := ⟨_, rfl⟩
  rw [← hE]
  have HE : Hid (E = if 4096 < p.length then 7 else if ordB p = true then 0 else 6) := hE
  have HI : Hid (IsInts n₀ w a p) := hI
  clear hE hI
  by_cases hl : (4096 : Int) < (p.length : Int)
  · have hfin : Hid (E = 7) := by show _ = _; rw [HE.out, if_pos (by omega)]
    go_enter Tryd.func7, Tryd.ntmps7
    go_wp2_with fail
    go_ret
    exact ⟨ret_int1 hfin.out.symm, rfl⟩
  · have HL : Hid (p.length ≤ 4096) := by show _ ≤ _; omega
    go_enter Tryd.func7, Tryd.ntmps7
    go_wp2_with fail
    refine (once_any a cap p (by have := HL.out; omega) _ w HI.out).mono ?_
    rintro e w1 ⟨rfl, rfl⟩
    cases ho : ordB p
    · have hfin : Hid (E = 6) := by show _ = _; rw [HE.out, if_neg (by have := HL.out; omega), if_neg (by rw [ho]; decide)]
      clear ho
      go_wp2_with fail
      go_ret
      exact ⟨ret_int1 hfin.out.symm, rfl⟩
    · have hfin : Hid (E = 0) := by show _ = _; rw [HE.out, if_neg (by have := HL.out; omega), if_pos ho]
      clear ho
      go_wp2_with fail
      go_ret
      exact ⟨ret_int1 hfin.out.symm, rfl⟩
/-! ### Turned round -/
def inT (p : List Int) (t : Nat) : Nat → List Int
  | 0 => []
  | k + 1 => if nth p k = (t : Int) then inT p t k ++ [(k : Int)] else inT p t k
def trk (p : List Int) (t k : Nat) : List Int := (tnd p).take t ++ inT p t k
theorem trk_zero (p : List Int) (t : Nat) : trk p t 0 = (tnd p).take t := by simp [trk, inT]
theorem trk_hit {p : List Int} {t k : Nat} (h : nth p k = (t : Int)) : trk p t (k + 1) = trk p t k ++ [(k : Int)] := by
  unfold trk
  simp only [inT]
  rw [if_pos h, List.append_assoc]
theorem trk_miss {p : List Int} {t k : Nat} (h : ¬ nth p k = (t : Int)) : trk p t (k + 1) = trk p t k := by
  unfold trk
  simp only [inT]
  rw [if_neg h]
theorem inT_len (p : List Int) (t : Nat) : ∀ k, (inT p t k).length ≤ k
  | 0 => Nat.le_refl _
  | k + 1 => by
    have := inT_len p t k
    simp only [inT]
    split
    · rw [List.length_append]; simp; omega
    · omega
theorem trk_len {p : List Int} {t k : Nat} (ht : t ≤ 4096) (hk : k ≤ 4096) : (trk p t k).length ≤ 8192 := by
  unfold trk
  rw [List.length_append, List.length_take]
  have := inT_len p t k
  omega
theorem inT_is {p : List Int} (hp : IsOrd p) {t i : Nat} (hi : i < p.length) (e : nth p i = (t : Int)) : ∀ k, k ≤ p.length → inT p t k = if i < k then [(i : Int)] else []
  | 0, _ => by simp [inT]
  | k + 1, hk => by
    have ih := inT_is hp hi e k (by omega)
    simp only [inT]
    by_cases h : nth p k = (t : Int)
    · have ei : i = k := hp.inj hi (by omega) (by rw [e, h])
      subst ei
      rw [if_pos h, ih, if_neg (by omega), if_pos (by omega)]
      rfl
    · have ei : i ≠ k := fun q => h (by rw [← q]; exact e)
      rw [if_neg h, ih]
      by_cases h2 : i < k
      · rw [if_pos h2, if_pos (by omega)]
      · rw [if_neg h2, if_neg (by omega)]
theorem trk_end {p : List Int} (hp : IsOrd p) {t : Nat} (ht : t < p.length) : trk p t p.length = (tnd p).take (t + 1) := by
  obtain ⟨i, hi, e⟩ := hp.surj ht
  have h1 := tnd_at hp hi
  rw [e, Int.toNat_natCast] at h1
  unfold trk
  rw [inT_is hp hi e _ (Nat.le_refl _), if_pos hi, take_snoc _ _ (by rw [tnd_length]; exact ht), h1]
set_option maxRecDepth 100000 in
set_option maxHeartbeats 2000000 in
theorem turned_any (a : Option Addr) (cap : Nat) (p : List Int) (hp : IsOrd p) (h1 : p.length ≤ 4096) (w : World) (hI : IsInts w.heap.size w a p) :
    Calls Tryd.prog 10 #[.slice a p.length cap] w (LsP (tnd p) w) := by
  have HI : Hid (IsInts w.heap.size w a p) := hI
  have HP : Hid (IsOrd p) := hp
  clear hI hp
  go_enter Tryd.func10, Tryd.ntmps10
  go_wp2_with fail
  go_loopw [3, 4] (fun v i wr => ∃ t : Nat, t ≤ p.length ∧ i = .int .i64 t ∧ wr.ownsRow w.heap.size 3 1 v ((tnd p).take t).length (((tnd p).take t).map (Value.int .i64)) ∧ Below w.heap.size w wr) (fun _ i _ => p.length - (intOf i).toNat)
  case atStart => exact ⟨0, Nat.zero_le _, rfl, World.ownsRow_nil _ _ _ _, Below.refl _ _⟩
  case round =>
    obtain ⟨t, ht, rfl, hown, hB⟩ := hrel
    by_cases hlt : t < p.length
    · rw [← trk_zero] at hown
      have HW : Hid (wr.ownsRow w.heap.size 3 1 u3 (trk p t 0).length ((trk p t 0).map (Value.int .i64))) := hown
      have HB : Hid (Below w.heap.size w wr) := hB
      clear hown hB
      go_wp2_with fail
      go_loopw [3, 5] (fun v i wr => ∃ k : Nat, k ≤ p.length ∧ i = .int .i64 k ∧ wr.ownsRow w.heap.size 3 1 v (trk p t k).length ((trk p t k).map (Value.int .i64)) ∧ Below w.heap.size w wr) (fun _ i _ => p.length - (intOf i).toNat)
      case atStart => exact ⟨0, Nat.zero_le _, rfl, HW.out, HB.out⟩
      case round =>
        clear HW HB
        obtain ⟨k, hk, rfl, hown, hB⟩ := hrel
        by_cases hkl : k < p.length
        · obtain ⟨b, off, rfl, hb, hcell⟩ := (HI.out.below hB).at hkl
          have hc := hcell k hkl
          have hz := hB.size
          have HB : Hid (Below w.heap.size w wr) := hB
          have HL : Hid ((trk p t k).length ≤ 8192) := trk_len (by omega) (by omega)
          clear hcell hB
          by_cases he : nth p k = (t : Int)
          · have HS : Hid (trk p t (k + 1) = trk p t k ++ [(k : Int)]) := trk_hit he
            have h3 : (nth p k == (t : Int)) = true := by simp [he]
            clear he
            have HW : Hid (wr.ownsRow w.heap.size 3 1 u3 (trk p t k).length ((trk p t k).map (Value.int .i64))) := hown
            clear hown
            generalize trk p t k = L at *
            go_wp2_with (at_builtin; refine app_list rfl _ _ rfl _ w.heap.size wr.heap.size u3 L (k : Int) rfl rfl (HW.out.alloc _) (heap_alloc_new wr _) (by have := HL.out; omega) (by simp; omega) ?_; intro g1 gc1 w3 hown1 hB3)
            refine ⟨⟨k + 1, by omega, by go_num, ?_, HB.out.trans (((Below.refl _ wr).alloc hz _).trans hB3)⟩, by simp [intOf]; omega⟩
            rw [HS.out, List.length_append]
            exact hown1
          · have HS : Hid (trk p t (k + 1) = trk p t k) := trk_miss he
            have h3 : (nth p k == (t : Int)) = false := by simp [he]
            clear he
            go_wp2_with fail
            exact ⟨⟨k + 1, by omega, by go_num, by rw [HS.out]; exact hown, HB.out⟩, by simp [intOf]; omega⟩
        · obtain rfl : k = p.length := by omega
          rw [trk_end HP.out hlt] at hown
          go_wp2_with fail
          exact ⟨⟨t + 1, by omega, by go_num, hown, hB⟩, by simp [intOf]; omega⟩
    · obtain rfl : t = p.length := by omega
      rw [List.take_of_length_le (by rw [tnd_length]; exact Nat.le_refl _)] at hown
      obtain ⟨g, gc, rfl, hN⟩ := own_cap hown
      clear hown
      go_wp2_with fail
      go_ret
      exact ⟨g, gc, rfl, hN, hB⟩
set_option maxRecDepth 100000 in
set_option maxHeartbeats 2000000 in
theorem behind_any (a : Option Addr) (cap : Nat) (p : List Int) (l : Nat) (hl : p.length = l) (a' : Option Addr) (cap' : Nat) (q : List Int) (l' : Nat) (hl' : q.length = l') (hq : ∀ j, j < q.length → 0 ≤ nth q j ∧ nth q j < p.length) (h1 : l ≤ 4096) (h2 : l' ≤ 4096) (w : World) (hI : IsInts w.heap.size w a p) (hI' : IsInts w.heap.size w a' q) :
    Calls Tryd.prog 14 #[.slice a l cap, .slice a' l' cap'] w (LsP (aft p q) w) := by
  subst hl hl'
  obtain ⟨D, hD⟩ : ∃ D, D = aft p q := ⟨_, rfl⟩
  have HD : Hid (D.length = q.length ∧ ∀ j, j < q.length → nth D j = nth p (nth q j).toNat) := ⟨by rw [hD]; exact aft_length, fun j hj => by rw [hD]; exact aft_nth hj⟩
  rw [← hD]
  have HI : Hid (IsInts w.heap.size w a p ∧ IsInts w.heap.size w a' q ∧ ∀ j, j < q.length → 0 ≤ nth q j ∧ nth q j < p.length) := ⟨hI, hI', hq⟩
  clear hI hI' hq hD
  go_enter Tryd.func14, Tryd.ntmps14
  go_wp2_with fail
  go_loopw [5, 6] (fun v i wr => ∃ k : Nat, k ≤ q.length ∧ i = .int .i64 k ∧ wr.ownsRow w.heap.size 3 1 v (D.take k).length ((D.take k).map (Value.int .i64)) ∧ Below w.heap.size w wr) (fun _ i _ => q.length - (intOf i).toNat)
  case atStart => exact ⟨0, Nat.zero_le _, rfl, World.ownsRow_nil _ _ _ _, Below.refl _ _⟩
  case round =>
    obtain ⟨k, hk, rfl, hown, hB⟩ := hrel
    by_cases hlt : k < q.length
    · obtain ⟨b', off', rfl, hb', hcell'⟩ := (HI.out.2.1.below hB).at hlt
      have hc' := hcell' k hlt
      have hqk := HI.out.2.2 k hlt
      obtain ⟨m, hm⟩ : ∃ m : Nat, nth q k = m := ⟨(nth q k).toNat, by omega⟩
      have hml : m < p.length := by omega
      obtain ⟨b, off, rfl, hb, hcell⟩ := (HI.out.1.below hB).at hml
      have hc := hcell m hml
      have HS : Hid (D.take (k + 1) = D.take k ++ [nth p m]) := by
        show _ = _
        rw [take_snoc D k (by rw [HD.out.1]; exact hlt), HD.out.2 k hlt, hm, Int.toNat_natCast]
      rw [hm] at hc'
      have hz := hB.size
      have HB : Hid (Below w.heap.size w wr) := hB
      have HL : Hid ((D.take k).length ≤ 4096) := by show _ ≤ _; rw [List.length_take]; omega
      have HW : Hid (wr.ownsRow w.heap.size 3 1 u5 (D.take k).length ((D.take k).map (Value.int .i64))) := hown
      clear hcell hcell' hB hown hqk hm
      generalize D.take k = L at *
      go_wp2_with (at_builtin; refine app_list rfl _ _ rfl _ w.heap.size wr.heap.size u5 L (nth p m) rfl rfl (HW.out.alloc _) (heap_alloc_new wr _) (by have := HL.out; omega) (by simp; omega) ?_; intro g1 gc1 w3 hown1 hB3)
      refine ⟨⟨k + 1, by omega, by go_num, ?_, HB.out.trans (((Below.refl _ wr).alloc hz _).trans hB3)⟩, by simp [intOf]; omega⟩
      rw [HS.out, List.length_append]
      exact hown1
    · obtain rfl : k = q.length := by omega
      rw [List.take_of_length_le (by rw [HD.out.1]; exact Nat.le_refl _)] at hown
      obtain ⟨g, gc, rfl, hN⟩ := own_cap hown
      clear hown
      go_wp2_with fail
      go_ret
      exact ⟨g, gc, rfl, hN, hB⟩
set_option maxRecDepth 100000 in
set_option maxHeartbeats 1000000 in
/-- A list and an error, told as the document says. -/
theorem ints_same (e : Int) (a : Option Addr) (cap : Nat) (zs : List Int) (l : Nat) (hl : zs.length = l) (b : Option Addr) (bap : Nat) (l' : Nat) (hl' : zs.length = l') (w : World) (hg : HasErr w) (h1 : l ≤ 9223372036854775807) (hs : IsInts w.heap.size w a zs) (hd : IsInts w.heap.size w b zs) :
    Calls Tryd.prog 12 #[.slice a l cap, errV e, .slice b l' bap, .int .i64 e] w fun r w' => r = .returned (.bool true) ∧ Below w.heap.size w w' := by
  subst hl hl'
  have HI : Hid (IsInts w.heap.size w a zs ∧ IsInts w.heap.size w b zs) := ⟨hs, hd⟩
  clear hs hd
  go_enter Tryd.func12, Tryd.ntmps12
  go_wp2_with fail
  refine (error_same e w hg).mono ?_
  rintro r w1 ⟨rfl, hB⟩
  have HB : Hid (Below w.heap.size w w1) := hB
  clear hB hg
  go_wp2_with fail
  refine (ints_any a cap zs b bap zs h1 _ w1 ((HI.out.1.below HB.out).mono HB.out.size) ((HI.out.2.below HB.out).mono HB.out.size)).mono ?_
  rintro r w2 ⟨rfl, hB2⟩
  rw [eqB_true rfl]
  go_wp2_with fail
  go_ret
  exact ⟨rfl, HB.out.trans (hB2.mono HB.out.size)⟩
end Go.Proofs.YtcblakcaoecgpaaDoor
