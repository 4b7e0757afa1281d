/-
  The program's orders: is it one; turned round; one by another one.
-/
import Derived.Test.YteddkfeiikdekaaIsord
import Derived.Test.YteddkfeiikdekaaPrmq
namespace Go.Proofs.Yteddkfeiikdekaa
open Go.RowKit
set_option linter.unusedVariables false

/-- What lies in a row that is filled, as a list. -/
theorem rr_list {wr : World} {B : Nat} {t : TypeId} {n : Nat} {xs : List Int} (h : wr.rowIs B t n (fun j => .int .i64 (nth xs j))) (hx : xs.length = n) {lo : Nat} (hlo : lo ≤ B) : NewC lo wr (some ⟨B, 0, none⟩) xs n :=
  ⟨.inr ⟨B, 0, rfl, hlo, h.lt, fun j hj => by rw [Nat.zero_add]; exact h.cell (by omega), fun j => h.frozen _⟩, by omega⟩
theorem rr_put {wr : World} {B : Nat} {t : TypeId} {n : Nat} {xs : List Int} (h : wr.rowIs B t n (fun j => .int .i64 (nth xs j))) (hx : xs.length = n) {i : Nat} (hi : i < n) (v : Int) : (wr.setCell ⟨B, i, none⟩ (.int .i64 v)).rowIs B t n (fun j => .int .i64 (nth (xs.set i v) j)) := by
  refine (h.set i _).congr fun j hj => ?_
  rw [nth_set _ _ _ _ (by omega)]
  by_cases e : j = i
  · rw [if_pos e, if_pos e]
  · rw [if_neg e, if_neg e]
/-- A list, up to a place. -/
def upl (D : List Int) (k : Nat) : List Int := D.take k ++ List.replicate (D.length - k) 0
theorem upl_length (D : List Int) {k : Nat} (h : k ≤ D.length) : (upl D k).length = D.length := by simp [upl]; omega
theorem upl_zero (D : List Int) : upl D 0 = List.replicate D.length 0 := by simp [upl]
theorem upl_all (D : List Int) : upl D D.length = D := by simp [upl]
theorem upl_next (D : List Int) {k : Nat} (h : k < D.length) : (upl D k).set k (nth D k) = upl D (k + 1) := by
  refine nth_ext (by rw [List.length_set, upl_length D (by omega), upl_length D (by omega)]) fun j hj => ?_
  rw [List.length_set, upl_length D (by omega)] at hj
  rw [nth_set _ _ _ _ (by rw [upl_length D (by omega)]; exact h)]
  have hg : ∀ k, k ≤ D.length → nth (upl D k) j = if j < k then nth D j else 0 := fun k hk => by
    unfold upl nth
    simp only [List.getD_eq_getElem?_getD]
    by_cases h1 : j < k
    · rw [if_pos h1, List.getElem?_append_left (by simp; omega), List.getElem?_take, if_pos h1]
    · rw [if_neg h1, List.getElem?_append_right (by simp; omega)]
      have : j - (D.take k).length < D.length - k := by simp; omega
      rw [List.getElem?_replicate, if_pos this]; rfl
  rw [hg k (by omega), hg (k + 1) (by omega)]
  by_cases e : j = k
  · rw [if_pos e, if_pos (by omega), e]
  · rw [if_neg e]
    by_cases h1 : j < k
    · rw [if_pos h1, if_pos (by omega)]
    · rw [if_neg h1, if_neg (by omega)]
/-- Turned round, as far as the first numbers go. -/
def tdT (p : List Int) (t : Nat) : List Int := (List.range p.length).map fun k : Nat => if nth (tnd p) k < (t : Int) then nth (tnd p) k else 0
theorem tdT_length (p : List Int) (t : Nat) : (tdT p t).length = p.length := by simp [tdT]
theorem tdT_nth {p : List Int} {t k : Nat} (h : k < p.length) : nth (tdT p t) k = if nth (tnd p) k < (t : Int) then nth (tnd p) k else 0 := by
  rw [nth_get _ _ (by rw [tdT_length]; exact h)]; simp [tdT]
theorem tdT_zero {p : List Int} (hp : IsOrd p) : tdT p 0 = List.replicate p.length 0 :=
  nth_ext (by rw [tdT_length, List.length_replicate]) fun k hk => by
    rw [tdT_length] at hk
    have := (at_tnd hp hk).2
    rw [tdT_nth hk, if_neg (by omega), nth_replicate]
theorem tdT_all {p : List Int} (hp : IsOrd p) : tdT p p.length = tnd p :=
  nth_ext (by rw [tdT_length, tnd_length]) fun k hk => by
    rw [tdT_length] at hk
    have := (at_tnd hp hk).2
    rw [tdT_nth hk, if_pos (by omega)]
theorem tdT_next {p : List Int} (hp : IsOrd p) {t m : Nat} (ht : t < p.length) (hm : nth p t = (m : Int)) : (tdT p t).set m (t : Int) = tdT p (t + 1) := by
  have hml : m < p.length := by have := hp.1 t ht; omega
  have e1 : nth (tnd p) m = (t : Int) := by
    have := tnd_at hp ht
    rw [hm, Int.toNat_natCast] at this
    exact this
  refine nth_ext (by rw [List.length_set, tdT_length, tdT_length]) fun k hk => ?_
  rw [List.length_set, tdT_length] at hk
  rw [nth_set _ _ _ _ (by rw [tdT_length]; exact hml), tdT_nth hk, tdT_nth hk]
  by_cases e : k = m
  · rw [if_pos e, e, e1, if_pos (by omega)]
  · rw [if_neg e]
    have hne : nth (tnd p) k ≠ (t : Int) := fun e2 => e ((tnd_ord hp).inj (by rw [tnd_length]; exact hk) (by rw [tnd_length]; exact hml) (e2.trans e1.symm))
    by_cases h1 : nth (tnd p) k < (t : Int)
    · rw [if_pos h1, if_pos (by omega)]
    · rw [if_neg h1, if_neg (by omega)]
set_option maxRecDepth 100000 in
set_option maxHeartbeats 1000000 in
theorem pc_holds : CPc := by
  intro a cap p w hl hI h64
  by_cases h1 : 4096 < p.length
  · have HE : Hid (orE p = 7) := by show _ = _; unfold orE; rw [if_pos h1]
    go_enter Try.func27, Try.ntmps27
    go_wp2_with fail
    go_ret
    refine ⟨?_, Below.refl _ _⟩
    rw [HE.out]; rfl
  · have hC := isord_any a cap p (by omega) w hI
    cases ho : ordB p with
    | true =>
      rw [ho] at hC
      have HE : Hid (orE p = 0) := by show _ = _; unfold orE; rw [if_neg h1, if_pos ho]
      clear ho
      go_enter Try.func27, Try.ntmps27
      go_wp2_with fail
      refine hC.mono ?_
      rintro e w1 ⟨rfl, hB⟩
      go_wp2_with fail
      go_ret
      refine ⟨?_, hB⟩
      rw [HE.out]; rfl
    | false =>
      rw [ho] at hC
      have HE : Hid (orE p = 6) := by show _ = _; unfold orE; rw [if_neg h1, if_neg (by rw [ho]; decide)]
      clear ho
      go_enter Try.func27, Try.ntmps27
      go_wp2_with fail
      refine hC.mono ?_
      rintro e w1 ⟨rfl, hB⟩
      go_wp2_with fail
      go_ret
      refine ⟨?_, hB⟩
      rw [HE.out]; rfl
theorem pc_ok (a : Option Addr) (cap : Nat) (p : List Int) (w : World) (hl : p.length ≤ 9223372036854775807) (hI : IsInts w.heap.size w a p) (h64 : ∀ j, In64 (nth p j)) (he : orE p = 0) :
    Calls Try.prog 27 #[.slice a p.length cap] w fun r w' => r = .returned .nilIface ∧ Below w.heap.size w w' :=
  (pc_holds a cap p w hl hI h64).mono fun r w' ⟨h, hB⟩ => ⟨by rw [h, he]; rfl, hB⟩
theorem pc_no (a : Option Addr) (cap : Nat) (p : List Int) (w : World) (hl : p.length ≤ 9223372036854775807) (hI : IsInts w.heap.size w a p) (h64 : ∀ j, In64 (nth p j)) (he : orE p ≠ 0) :
    Calls Try.prog 27 #[.slice a p.length cap] w fun r w' => r = .returned (.iface 57 (.int .i64 (orE p))) ∧ Below w.heap.size w w' :=
  (pc_holds a cap p w hl hI h64).mono fun r w' ⟨h, hB⟩ => ⟨by rw [h, errV_pos he], hB⟩
set_option maxRecDepth 100000 in
set_option maxHeartbeats 2000000 in
theorem pi_holds : CPi := by
  intro a cap p w hl hI h64
  by_cases he : orE p = 0
  · have hC := pc_ok a cap p w hl hI h64 he
    have hz := orE_zero.1 he
    have HI : Hid (IsInts w.heap.size w a p) := hI
    have HE : Hid (orE p = 0) := he
    have HP : Hid (IsOrd p) := hz.2
    have hl4 : p.length ≤ 4096 := hz.1
    clear hI h64 he hz
    have hmk := run_make_row' (P := Try.prog) 22 3 (.int .i64 0) 8 Try.underlying22 Try.infoInt rfl .i64 .i64 p.length (by omega) (by omega)
    go_enter Try.func14, Try.ntmps14
    go_wp2_with fail
    refine hC.mono ?_
    rintro e w1 ⟨rfl, hB⟩
    clear hC
    have hz1 := hB.size
    have HB1 : Hid (Below w.heap.size w (w1.alloc (.cells (madeCells #[.int .i64 0] p.length) 3))) := hB.alloc hz1 _
    have HR0 : Hid ((w1.alloc (.cells (madeCells #[.int .i64 0] p.length) 3)).rowIs w1.heap.size 3 p.length (fun _ => .int .i64 0)) := World.rowIs_made w1 (.int .i64 0) p.length 3
    clear hB
    go_wp2_with fail
    clear hmk
    go_loopw [18] (fun i wr => ∃ t : Nat, t ≤ p.length ∧ i = .int .i64 t ∧ wr.rowIs w1.heap.size 3 p.length (fun j => .int .i64 (nth (tdT p t) j)) ∧ Below w.heap.size w wr) (fun i _ => p.length - (intOf i).toNat)
    case atStart => exact ⟨0, Nat.zero_le _, rfl, HR0.out.congr (fun j _ => by rw [tdT_zero HP.out, nth_replicate]), HB1.out⟩
    case round =>
      obtain ⟨t, ht, rfl, hrow, hB⟩ := hrel
      by_cases hlt : t < p.length
      · obtain ⟨b, off, rfl, hb, hcell⟩ := (HI.out.below hB).at hlt
        have hc := hcell t hlt
        have hm0 := HP.out.1 t hlt
        obtain ⟨m, hm⟩ : ∃ m : Nat, nth p t = m := ⟨(nth p t).toNat, by omega⟩
        have hml : m < p.length := by omega
        rw [hm] at hc
        have hcm := hrow.cell hml
        have hfm := hrow.frozen m
        have HN : Hid ((tdT p t).set m (t : Int) = tdT p (t + 1)) := tdT_next HP.out hlt hm
        clear hm0 hm hcell
        go_wp2_with fail
        refine ⟨⟨t + 1, by omega, by go_num, ?_, hB.setCell (p := ⟨w1.heap.size, m, none⟩) hz1 _⟩, by simp [intOf]; omega⟩
        rw [← HN.out]
        exact rr_put hrow (tdT_length p t) hml _
      · obtain rfl : t = p.length := by omega
        have hN := rr_list hrow (tdT_length p _) (lo := w.heap.size) hz1
        rw [tdT_all HP.out] at hN
        have HN : Hid (NewC w.heap.size wr (some ⟨w1.heap.size, 0, none⟩) (tnd p) p.length) := hN
        clear hrow hN
        go_wp2_with fail
        go_ret2
        have hL : (tnd p).length = p.length := tnd_length
        have := UL.mkok (L := tnd p) HE.out HN.out hB
        rw [hL] at this
        exact this
  · have hC := pc_no a cap p w hl hI h64 he
    have HE : Hid (orE p ≠ 0) := he
    clear hI h64 he
    generalize orE p = e0 at *
    go_enter Try.func14, Try.ntmps14
    go_wp2_with fail
    refine hC.mono ?_
    rintro e w1 ⟨rfl, hB⟩
    go_wp2_with fail
    go_ret2
    exact UL.mkno rfl HE.out hB
end Go.Proofs.Yteddkfeiikdekaa
