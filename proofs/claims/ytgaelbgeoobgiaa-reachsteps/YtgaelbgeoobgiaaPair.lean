/-
  A function of two cells, as each.Pairing makes it.
-/
import Derived.Test.YtgaelbgeoobgiaaTwos
import Derived.Test.YtgaelbgeoobgiaaEachm
import Derived.Test.YtgaelbgeoobgiaaBase
namespace Go.Proofs.Ytgaelbgeoobgiaa
open Go.RowKit
set_option linter.unusedVariables false

theorem blk_to {w w' : World} {b : Nat} {o : Obj} (h : w.heap[b]? = some o) (hB : Below w.heap.size w w') : w'.heap[b]? = some o := by
  obtain ⟨hlt, _⟩ := Array.getElem?_eq_some_iff.1 h
  exact (hB.block b hlt).trans h
theorem cell_lt {w : World} {p : Addr} {v : Value} (h : w.cell? p = some v) : p.block < w.heap.size := by
  refine Classical.byContradiction fun hn => ?_
  have e : w.heap[p.block]? = none := Array.getElem?_eq_none (by omega)
  rw [show w.cell? p = none by simp [World.cell?, e]] at h
  cases h
theorem cell_to {w w' : World} {p : Addr} {v : Value} (h : w.cell? p = some v) (hB : Below w.heap.size w w') : w'.cell? p = some v := (hB.cell (cell_lt h)).trans h
/-- Which functions take characters. -/
def tkC (f : Int) : Bool := decide (f = 8 ∨ f = 9)
set_option maxHeartbeats 1000000 in
theorem takes_any (f : Int) (w : World) : Calls Try.prog 46 #[.int .i64 f] w fun e w' => e = .returned (.bool (tkC f)) ∧ w' = w := by
  by_cases h8 : f = 8
  · subst h8
    go_enter Try.func46, Try.ntmps46
    go_wp2_with fail
    go_ret
    exact ⟨ret_bool (by simp [tkC]), rfl⟩
  · have t8 : (f == 8) = false := by simp [h8]
    have H8 : Hid (f ≠ 8) := h8
    clear h8
    go_enter Try.func46, Try.ntmps46
    go_wp2_with fail
    go_ret
    have h8 := H8.out
    exact ⟨ret_bool (by simp [tkC, h8]; try rfl), rfl⟩
/-- A function value that tells of two cells, by a block below n. -/
def PairF (n : Nat) (w : World) (v : Value) (f : Int) (t : Bool) : Prop := ∃ k b o, b < n ∧ v = .func (.func k) #[] #[.pointer (some ⟨b, 0, none⟩)] ∧ (∀ args w, (callFunc k args).run Try.prog w = .ok (.enter k args) w) ∧ w.heap[b]? = some o ∧
  ∀ (x y : Int), In64 x → In64 y → ∀ w' : World, w'.heap[b]? = some o → Calls Try.prog k #[.int .i64 x, .int .i64 y, .pointer (some ⟨b, 0, none⟩)] w' fun e w'' => e = .returned (.tuple #[.int .i64 (tcV f t x y), errV (tcE f t x y)]) ∧ Below w'.heap.size w' w''
section
variable {n : Nat} {w w' : World} {v : Value} {f : Int} {t : Bool}
theorem PairF.bel (h : PairF n w v f t) (hB : Below n w w') : PairF n w' v f t := by
  obtain ⟨k, b, o, hn, e, h1, hb, h2⟩ := h
  exact ⟨k, b, o, hn, e, h1, (hB.block b hn).trans hb, h2⟩
theorem PairF.go (h : PairF n w v f t) (hB : Below w.heap.size w w') : PairF n w' v f t := by
  obtain ⟨k, b, o, hn, e, h1, hb, h2⟩ := h
  exact ⟨k, b, o, hn, e, h1, blk_to hb hB, h2⟩
theorem PairF.grown (h : PairF n w v f t) {r : Nat} (hg : w.grownBy w' (some r)) (hr : n ≤ r) : PairF n w' v f t := by
  obtain ⟨k, b, o, hn, e, h1, hb, h2⟩ := h
  exact ⟨k, b, o, hn, e, h1, (hg.block b (Array.getElem?_eq_some_iff.1 hb).1 (fun q => by have := Option.some.inj q; omega)).trans hb, h2⟩
theorem PairF.fn (h : PairF n w v f t) : ∃ k d, v = .func (.func k) #[] #[.pointer (some ⟨d, 0, none⟩)] := by
  obtain ⟨k, b, o, hn, e, h1, hb, h2⟩ := h
  exact ⟨k, b, e⟩
end
set_option maxHeartbeats 1000000 in
theorem pair1_any (f : Int) (hf : f = 8 ∨ f = 9) (x y : Int) (b : Nat) (w : World) (hc : w.cell? ⟨b, 0, none⟩ = some (.int .i64 f)) :
    Calls Try.prog 47 #[.int .i64 x, .int .i64 y, .pointer (some ⟨b, 0, none⟩)] w fun e w' => e = .returned (.tuple #[.int .i64 (tcV f false x y), errV (tcE f false x y)]) ∧ Below w.heap.size w w' := by
  have HV : Hid (twoV f 0 1 = tcV f false x y ∧ twoE f 0 1 = tcE f false x y) := by
    unfold tcV tcE
    rw [if_neg (by decide), if_neg (by decide)]
    rcases hf with rfl | rfl <;> exact ⟨by decide, by decide⟩
  clear hf
  go_enter Try.func47, Try.ntmps47
  go_wp2_with fail
  refine (two_any f 0 1 (by unfold In64; decide) (by unfold In64; decide) w).mono ?_
  rintro e w1 ⟨rfl, hb⟩
  go_wp2_with fail
  go_ret2
  exact ⟨ret2 HV.out.1 (by rw [HV.out.2]; rfl), hb⟩
set_option maxHeartbeats 1000000 in
theorem pair2_any (f : Int) (x y : Int) (hx : In64 x) (hy : In64 y) (b : Nat) (w : World) (hc : w.cell? ⟨b, 0, none⟩ = some (.int .i64 f)) :
    Calls Try.prog 48 #[.int .i64 x, .int .i64 y, .pointer (some ⟨b, 0, none⟩)] w fun e w' => e = .returned (.tuple #[.int .i64 (tcV f true x y), errV (tcE f true x y)]) ∧ Below w.heap.size w w' := by
  have HX : Hid (In64 x ∧ In64 y) := ⟨hx, hy⟩
  clear hx hy
  go_enter Try.func48, Try.ntmps48
  go_wp2_with fail
  refine (two_any f x y HX.out.1 HX.out.2 w).mono ?_
  rintro e w1 ⟨rfl, hb⟩
  go_wp2_with fail
  go_ret2
  exact ⟨rfl, hb⟩
theorem takes_fn {f : Int} (h : tkC f = true) : f = 8 ∨ f = 9 := by unfold tkC at h; exact of_decide_eq_true h
theorem takes_bad {c c' : Bool} {f : Int} : ((c || c') && !tkC f) = true ↔ (c = true ∨ c' = true) ∧ f ≠ 8 ∧ f ≠ 9 := by
  unfold tkC
  simp
set_option maxRecDepth 100000 in
set_option maxHeartbeats 2000000 in
/-- It makes a function of two cells. -/
theorem pairing_ok (f : Int) (c c' : Bool) (h : ((c || c') && !tkC f) = false) (w : World) :
    Calls Try.prog 24 #[.int .i64 f, .bool c, .bool c'] w fun e w' => ∃ v, e = .returned (.tuple #[v, .nilIface]) ∧ PairF w'.heap.size w' v f (c == c') ∧ Below w.heap.size w w' := by
  have HB0 : Hid (Below w.heap.size w (w.alloc (.cells #[.int .i64 f] 34))) := (Below.refl _ w).alloc (Nat.le_refl _) _
  have B0 : Hid ((w.alloc (.cells #[.int .i64 f] 34)).heap[w.heap.size]? = some (.cells #[.int .i64 f] 34 (0, 0))) := (MapKept.heap_alloc w _).1
  have HK : Hid ((c || c') = true → tkC f = true) := fun hc => by
    rw [hc] at h
    simpa using h
  clear h
  cases c <;> cases c'
  case false.false =>
    clear HK
    go_enter Try.func24, Try.ntmps24
    go_wp2_with fail
    go_ret2
    exact ⟨.func (.func 48) #[] #[.pointer (some ⟨w.heap.size, 0, none⟩)], rfl, ⟨_, w.heap.size, _, by simp, rfl, enters_of Try.func48 (by kernel_rfl) rfl, B0.out, fun x y hx hy w' hB => pair2_any f x y hx hy _ w' (cell_of_one hB)⟩, HB0.out⟩
  all_goals
    have hk : tkC f = true := HK.out rfl
    go_enter Try.func24, Try.ntmps24
    go_wp2_with fail
    refine (takes_any f _).mono ?_
    rintro e w1 ⟨rfl, rfl⟩
    rw [hk]
    go_wp2_with fail
    go_ret2
  all_goals first
    | exact ⟨.func (.func 48) #[] #[.pointer (some ⟨w.heap.size, 0, none⟩)], rfl, ⟨_, w.heap.size, _, by simp, rfl, enters_of Try.func48 (by kernel_rfl) rfl, B0.out, fun x y hx hy w' hB => pair2_any f x y hx hy _ w' (cell_of_one hB)⟩, HB0.out⟩
    | exact ⟨.func (.func 47) #[] #[.pointer (some ⟨w.heap.size, 0, none⟩)], rfl, ⟨_, w.heap.size, _, by simp, rfl, enters_of Try.func47 (by kernel_rfl) rfl, B0.out, fun x y hx hy w' hB => pair1_any f (takes_fn (HK.out rfl)) x y _ w' (cell_of_one hB)⟩, HB0.out⟩
set_option maxRecDepth 100000 in
set_option maxHeartbeats 2000000 in
/-- It makes none. -/
theorem pairing_no (f : Int) (c c' : Bool) (h : ((c || c') && !tkC f) = true) (w : World) :
    Calls Try.prog 24 #[.int .i64 f, .bool c, .bool c'] w fun e w' => e = .returned (.tuple #[.nilFunc, .iface 76 (.int .i64 6)]) ∧ Below w.heap.size w w' := by
  have HB0 : Hid (Below w.heap.size w (w.alloc (.cells #[.int .i64 f] 34))) := (Below.refl _ w).alloc (Nat.le_refl _) _
  have hk : tkC f = false := by
    rw [Bool.and_eq_true] at h
    simpa using h.2
  have hc : (c || c') = true := by
    rw [Bool.and_eq_true] at h
    exact h.1
  clear h
  cases c <;> cases c'
  case false.false => exact absurd hc (by decide)
  all_goals
    clear hc
    go_enter Try.func24, Try.ntmps24
    go_wp2_with fail
    refine (takes_any f _).mono ?_
    rintro e w1 ⟨rfl, rfl⟩
    rw [hk]
    go_wp2_with fail
    go_ret2
    exact ⟨rfl, HB0.out⟩
end Go.Proofs.Ytgaelbgeoobgiaa
