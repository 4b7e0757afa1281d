/-
  The program's matrix of some rows and the columns of the same numbers.
-/
import Derived.Deep.DeepCutAuto
import Derived.Laws.ResultCell
import Derived.Test.YtjaabemlpiafaaaDoorMgb
namespace Go.Proofs.YtjaabemlpiafaaaDoor
open Go.RowKit
set_option linter.unusedVariables false

theorem res_g2 {fn : Func} {p u : Tmp} (h : fn.results = #[.cell p 52, .tmp u]) (tmps : Array Value) (w : World) (b : Nat) (A : Mx) (x : Value) (hp : tmps.getD p undef = .pointer (some ⟨b, 0, none⟩)) (hg : Gb w b A) (hx : tmps.getD u undef = x) :
    (results fn tmps).run Tryd.prog w = .ok (.tuple #[.agg (ofg A), x]) w := by
  rw [results_cell_tmp h, hp, hx]
  simp [asAddr, Result.andThen, ldg hg]
theorem bit_is (s m : Nat) : Go.bits .and .i64 ((s : Int) / 2 ^ m) 1 = ((s / 2 ^ m % 2 : Nat) : Int) := by
  rw [band1]
  simp
theorem cnt_gap {S : Nat → Bool} {m : Nat} (hm : S m = false) : ∀ {n : Nat}, m < n → cnt S n ≤ cnt S m + (n - m - 1)
  | 0, h => absurd h (by omega)
  | n + 1, h => by
    by_cases e : n = m
    · subst e
      rw [cnt, hm]
      simp
    · have := cnt_gap hm (n := n) (by omega)
      rw [cnt]
      split <;> omega
theorem sel_five {S : Nat → Bool} {m n x : Nat} (hm : S m = false) (hmn : m < n) (hn : n ≤ 6) (hx : x < cnt S n) : sel S m x < 5 := by
  by_cases h : x < cnt S m
  · have := (sel_in h).1
    omega
  · obtain ⟨d, rfl⟩ : ∃ d, x = cnt S m + d := ⟨x - cnt S m, by omega⟩
    rw [sel_top]
    have := cnt_gap hm hmn
    omega
/-- What is left of it, where those from r on have been looked at. -/
def Amg (S : Nat → Bool) (n : Nat) (A : Mx) (r : Nat) (G : Mx) : Prop := ∀ x, x < cnt S n → ∀ y, y < cnt S n → G (sel S r x) (sel S r y) = A (sel S n x) (sel S n y)
theorem Amg.yes {S : Nat → Bool} {n m : Nat} {A G : Mx} (h : Amg S n A (m + 1) G) (hS : S m = true) : Amg S n A m G := fun x hx y hy => by
  have := h x hx y hy
  rwa [sel_yes hS, sel_yes hS] at this
theorem Amg.no {S : Nat → Bool} {n m : Nat} {A G : Mx} (h : Amg S n A (m + 1) G) (hS : S m = false) (hm : m < n) (hn : n ≤ 6) : Amg S n A m (wog m m G) := fun x hx y hy => by
  have := h x hx y hy
  rw [sel_no (by rw [hS]; decide), sel_no (by rw [hS]; decide)] at this
  unfold wog
  rw [if_pos ⟨sel_five hS hm hn hx, sel_five hS hm hn hy⟩]
  exact this
theorem Amg.dt {S : Nat → Bool} {n : Nat} {A G : Mx} (h : Amg S n A 0 G) : Go.Proofs.YtjaabemlpiafaaaDoor.dt (cnt S n) G = Go.Proofs.YtjaabemlpiafaaaDoor.dt (cnt S n) (sub S n A) := dt_ext fun x hx y hy => h x hx y hy
theorem cnt_mns (S : Nat → Bool) : ∀ {m n : Nat}, m ≤ n → cnt S m ≤ cnt S n
  | m, 0, h => by rw [show m = 0 by omega]; exact Nat.le_refl _
  | m, n + 1, h => by
    by_cases e : m = n + 1
    · rw [e]; exact Nat.le_refl _
    · have := cnt_mns S (m := m) (n := n) (by omega)
      rw [cnt]
      split <;> omega
set_option maxRecDepth 100000 in
set_option maxHeartbeats 2000000 in
theorem gamong_any (n : Nat) (hn : n ≤ 6) (A : Mx) (s : Nat) (hs : s < 64) (w : World) :
    Calls Tryd.prog 28 #[.agg (ofg A), .int .i64 (n : Nat), .int .i64 (s : Nat)] w fun e w' => ∃ G, e = .returned (.tuple #[.agg (ofg G), .int .i64 (cnt (bt s) n : Nat)]) ∧ Amg (bt s) n A 0 G ∧ Below w.heap.size w w' := by
  obtain ⟨w0, HW⟩ : ∃ w0, Hid (w0 = (w.alloc (.cells (ofg A) 52)).alloc (.cells (ofg fun _ _ => 0) 52)) := ⟨_, rfl⟩
  have HQ0 : Hid (Gb w0 w.heap.size A ∧ Gb w0 (w.heap.size + 1) (fun _ _ => 0) ∧ Below w.heap.size w w0) := by
    show _ ∧ _
    rw [HW.out]
    have h1 := Gb.new (w.alloc (.cells (ofg A) 52)) fun _ _ => 0
    rw [World.size_alloc] at h1
    exact ⟨(Gb.new w A).al _, h1, ((Below.refl _ w).alloc (Nat.le_refl _) _).alloc (by simp) _⟩
  go_enter Tryd.func28, Tryd.ntmps28
  go_wp2_with fail
  rw [ofg_zero, ← HW.out]
  clear HW
  go_loopw [8, 9] (fun q i wr => ∃ (r : Nat) (G : Mx), r ≤ n ∧ i = .int .i64 ((r : Int) - 1) ∧ q = .int .i64 (r + (cnt (bt s) n - cnt (bt s) r) : Nat) ∧ Amg (bt s) n A r G ∧ Gb wr w.heap.size G ∧ Gb wr (w.heap.size + 1) (fun _ _ => 0) ∧ Below w.heap.size w wr) (fun _ i _ => (intOf i + 1).toNat)
  case atStart => exact ⟨n, A, Nat.le_refl _, rfl, by rw [Nat.sub_self, Nat.add_zero], fun x _ y _ => rfl, HQ0.out⟩
  case round =>
    clear HQ0
    obtain ⟨r, G, hr, rfl, rfl, hG, hQ⟩ := hrel
    have HQ : Hid (Gb wr w.heap.size G ∧ Gb wr (w.heap.size + 1) (fun _ _ => 0) ∧ Below w.heap.size w wr) := hQ
    have HG : Hid (Amg (bt s) n A r G) := hG
    clear hQ hG
    cases r with
    | zero =>
      have e1 : ((0 : Nat) : Int) - 1 = -1 := by omega
      have e2 : 0 + (cnt (bt s) n - cnt (bt s) 0) = cnt (bt s) n := by rw [cnt]; omega
      obtain ⟨C, HCn⟩ : ∃ C, Hid (C = cnt (bt s) n) := ⟨_, rfl⟩
      rw [e1, e2, ← HCn.out]
      clear e1 e2
      go_wp2_with (first | refine wpl_ldg w.heap.size G _ HQ.out.1 rfl rfl rfl ?_ | refine wpl_stg (w.heap.size + 1) _ G _ _ HQ.out.2.1 rfl rfl rfl rfl rfl ?_)
      exact bodyPost_ret (v := .tuple #[.agg (ofg G), .int .i64 (C : Nat)]) (res_g2 rfl _ _ (w.heap.size + 1) G _ rfl HQ.out.2.1.row rfl) rfl ⟨G, by rw [HCn.out], HG.out, bel_row HQ.out.2.2 (by omega)⟩
    | succ m =>
      have e1 : ((m + 1 : Nat) : Int) - 1 = (m : Int) := by omega
      rw [e1]
      obtain ⟨C, hC⟩ : ∃ C, C = m + 1 + (cnt (bt s) n - cnt (bt s) (m + 1)) := ⟨_, rfl⟩
      rw [← hC]
      have HC : Hid (C = m + 1 + (cnt (bt s) n - cnt (bt s) (m + 1))) := hC
      have hCb : C ≤ 12 := by have := cnt_le (bt s) n; omega
      have m6 : m < 6 := by omega
      have hgm : ¬ (m : Int) < 0 := by omega
      clear hC e1
      by_cases hb : bt s m = true
      · have tb : (Go.bits .and .i64 ((s : Int) / 2 ^ m) 1 == 0) = false := by
          rw [bit_is]
          have h1 : s / 2 ^ m % 2 = 1 := by simpa [bt] using hb
          rw [h1]
          rfl
        have HCm : Hid (C = m + (cnt (bt s) n - cnt (bt s) m)) := by
          show _ = _
          have h2 : cnt (bt s) (m + 1) = cnt (bt s) m + 1 := by rw [cnt, if_pos hb]
          have := cnt_mns (bt s) (m := m + 1) (n := n) hr
          rw [HC.out]
          omega
        have HG2 : Hid (Amg (bt s) n A m G) := HG.out.yes hb
        clear HC hb HG
        go_wp2_with fail
        exact ⟨⟨m, G, by omega, rfl, by rw [← HCm.out], HG2.out, HQ.out⟩, by simp [intOf]⟩
      · have hb' : bt s m = false := by simpa using hb
        have tb : (Go.bits .and .i64 ((s : Int) / 2 ^ m) 1 == 0) = true := by
          rw [bit_is]
          have h1 : ¬ s / 2 ^ m % 2 = 1 := by simpa [bt] using hb
          rw [show s / 2 ^ m % 2 = 0 by omega]
          rfl
        have HCm : Hid ((C : Int) - 1 = ((m + (cnt (bt s) n - cnt (bt s) m) : Nat) : Int)) := by
          show _ = _
          have h2 : cnt (bt s) (m + 1) = cnt (bt s) m := by rw [cnt, if_neg hb]; omega
          rw [HC.out, h2]
          omega
        have HG2 : Hid (Amg (bt s) n A m (wog m m G)) := HG.out.no hb' (by omega) hn
        clear HC hb hb' HG
        go_wp2_with (refine wpl_ldg w.heap.size G _ HQ.out.1 rfl rfl rfl ?_)
        refine (without_any G m m (by omega) (by omega) _).mono ?_
        rintro e y1 ⟨rfl, hB1⟩
        have HQ1 : Hid (Gb y1 w.heap.size G ∧ Gb y1 (w.heap.size + 1) (fun _ _ => 0) ∧ Below w.heap.size w y1) := ⟨HQ.out.1.go hB1, HQ.out.2.1.go hB1, HQ.out.2.2.trans (hB1.mono HQ.out.2.2.size)⟩
        clear HQ hB1
        go_wp2_with (refine wpl_stg w.heap.size _ (wog m m G) _ _ HQ1.out.1 rfl rfl rfl rfl rfl ?_)
        exact ⟨⟨m, wog m m G, by omega, rfl, by rw [← HCm.out], HG2.out, HQ1.out.1.row, HQ1.out.2.1.oth (by omega), bel_row HQ1.out.2.2 (Nat.le_refl _)⟩, by simp [intOf]⟩
end Go.Proofs.YtjaabemlpiafaaaDoor
