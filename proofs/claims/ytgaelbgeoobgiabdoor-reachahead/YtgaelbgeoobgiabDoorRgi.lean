/-
  What may be next.
-/
import Derived.WalkMore
import Derived.BigQuiet
import Derived.Deep.DeepCutAuto
import Derived.Test.YtgaelbgeoobgiabDoorRgh
import Derived.Test.YtgaelbgeoobgiabDoorRco
import Derived.Test.YtgaelbgeoobgiabDoorInl
namespace Go.Proofs.YtgaelbgeoobgiabDoor
open Go.RowKit
set_option linter.unusedVariables false

/-- It may be next: it is not placed, and all that lead to it are. -/
def rdyT (R : Rl) (n : Nat) (T : Nat → Bool) (i : Nat) : Bool := !T i && (List.range n).all fun j => T j || !R j i
theorem rdy_T (R : Rl) (n : Nat) (l : List Nat) : rdy R n l = rdyT R n fun a => l.contains a := rfl
theorem rdyT_all {R : Rl} {n i : Nat} {T : Nat → Bool} (h0 : T i = false) (h : ∀ q, q < n → ¬ (R q i = true ∧ T q = false)) : rdyT R n T i = true := by
  unfold rdyT
  rw [h0, Bool.not_false, Bool.true_and, List.all_eq_true]
  intro j hj
  have := h j (List.mem_range.1 hj)
  cases hT : T j
  · cases hR : R j i
    · rfl
    · exact absurd ⟨hR, hT⟩ this
  · rfl
theorem rdyT_placed {R : Rl} {n i : Nat} {T : Nat → Bool} (h0 : T i = true) : ¬ rdyT R n T i = true := by
  unfold rdyT
  intro e
  rw [Bool.and_eq_true] at e
  rw [h0] at e
  exact absurd e.1 (by decide)
theorem rdyT_waits {R : Rl} {n i j : Nat} {T : Nat → Bool} (hj : j < n) (h : R j i = true) (h0 : T j = false) : ¬ rdyT R n T i = true := by
  unfold rdyT
  intro e
  rw [Bool.and_eq_true, List.all_eq_true] at e
  have := e.2 j (List.mem_range.2 hj)
  rw [h, h0] at this
  exact absurd this (by decide)
/-- A row of n, so far. -/
def orL (n : Nat) (l : List Nat) : List Int := inL l ++ List.replicate (n - l.length) 0
theorem orL_len {n : Nat} {l : List Nat} (h : l.length ≤ n) : (orL n l).length = n := by simp [orL, inL]; omega
theorem orL_nil (n : Nat) : orL n [] = List.replicate n 0 := by simp [orL, inL]
theorem orL_all {n : Nat} {l : List Nat} (h : l.length = n) : orL n l = inL l := by simp [orL, h]
theorem orL_put {n : Nat} {l : List Nat} (h : l.length < n) (x : Nat) : (orL n l).set l.length ((x : Nat) : Int) = orL n (l ++ [x]) := by
  unfold orL
  rw [List.set_append_right _ _ (by rw [inL_len]; exact Nat.le_refl _), inL_len, Nat.sub_self, inL_app, List.length_append, List.append_assoc]
  congr 1
  rw [show n - l.length = (n - (l.length + 1)) + 1 by omega, List.replicate_succ]
  rfl
theorem con_put (l : List Nat) (x : Nat) : ptt (fun a => l.contains a) x true = fun a => (l ++ [x]).contains a := by
  funext a
  unfold ptt
  rw [Bool.eq_iff_iff]
  by_cases e : a = x
  · rw [if_pos e]; subst e; simp
  · rw [if_neg e]; simp [e]
theorem tp_step {R : Rl} {n k : Nat} {l : List Nat} (hk : 0 < k) : tp R n k l = if nxi R n l < n then tp R n (k - 1) (l ++ [nxi R n l]) else none := by
  obtain ⟨m, rfl⟩ : ∃ m, k = m + 1 := ⟨k - 1, by omega⟩
  rw [tp, Nat.add_sub_cancel]
/-- An order, or that there is none. -/
def OrdP (n : Nat) (o : Option (List Nat)) (w : World) (r : Ending) (w' : World) : Prop := match o with
  | some p => ∃ xa, r = .returned (.tuple #[.slice xa n n, .nilIface]) ∧ NewC w.heap.size w' xa (inL p) n ∧ Below w.heap.size w w'
  | none => r = .returned (.tuple #[.slice none 0 0, .iface 33 (.int .i64 9)]) ∧ Below w.heap.size w w'
/-- What may be next, and if there is one. -/
def nxV (R : Rl) (n : Nat) (T : Nat → Bool) : Value := if lea (rdyT R n T) n < n then .tuple #[.int .i64 ((lea (rdyT R n T) n : Nat) : Int), .bool true] else .tuple #[.int .i64 0, .bool false]
theorem nxV_yes {R : Rl} {n : Nat} {T : Nat → Bool} (h : lea (rdyT R n T) n < n) : nxV R n T = .tuple #[.int .i64 ((lea (rdyT R n T) n : Nat) : Int), .bool true] := if_pos h
theorem nxV_no {R : Rl} {n : Nat} {T : Nat → Bool} (h : ¬ lea (rdyT R n T) n < n) : nxV R n T = .tuple #[.int .i64 0, .bool false] := if_neg h
set_option maxRecDepth 100000 in
set_option maxHeartbeats 2000000 in
theorem next_any (A : Rl) (n : Nat) (hn : n ≤ 24) (T : Nat → Bool) (w : World) :
    Calls Tryd.prog 12 #[.agg (ofr A), .int .i64 (n : Nat), .agg (oft T)] w fun e w' => e = .returned (nxV A n T) ∧ Below w.heap.size w w' := by
  obtain ⟨w0, HW⟩ : ∃ w0, Hid (w0 = (w.alloc (.cells (ofr A) 41)).alloc (.cells (oft T) 39)) := ⟨_, rfl⟩
  have HQ0 : Hid (Rb w0 w.heap.size A ∧ Tb w0 (w.heap.size + 1) T ∧ Below w.heap.size w w0) := by
    show _ ∧ _
    rw [HW.out]
    have h2 := Tb.new (w.alloc (.cells (ofr A) 41)) T
    simp only [World.size_alloc] at h2
    exact ⟨(Rb.new w A).al _, h2, ((Below.refl _ w).alloc (Nat.le_refl _) _).alloc (by simp) _⟩
  go_enter Tryd.func12, Tryd.ntmps12
  go_wp2_with fail
  go_step3
  go_wp2_with fail
  go_step3
  go_wp2_with fail
  rw [← HW.out]
  clear HW
  go_loopw [11] (fun i wr => wr = w0 ∧ ∃ t : Nat, t ≤ n ∧ i = .int .i64 t ∧ Hid (∀ q, q < t → ¬ rdyT A n T q = true)) (fun i _ => n - (intOf i).toNat)
  case atStart => exact ⟨rfl, 0, Nat.zero_le _, rfl, fun q h => absurd h (Nat.not_lt_zero _)⟩
  case round =>
    obtain ⟨hwr, t, ht, rfl, HN⟩ := hrel
    obtain rfl := hwr.symm
    by_cases hlt : t < n
    · have iT : (t : Int) < 24 := by omega
      have t24 : t < 24 := by omega
      have c0 := HQ0.out.2.1.cell t24
      have HS : ¬ rdyT A n T t = true → Hid (∀ q, q < t + 1 → ¬ rdyT A n T q = true) := fun e q hq => by
        by_cases e2 : q = t
        · rw [e2]; exact e
        · exact HN.out q (by omega)
      obtain ⟨z, hz⟩ : ∃ z, T t = z := ⟨_, rfl⟩
      rw [hz] at c0
      cases z
      · have HL : (∀ q, q < n → ¬ (A q t = true ∧ T q = false)) → Hid (lea (rdyT A n T) n = t) := fun e => lea_at hlt (rdyT_all hz e) HN.out
        have HG : Hid ((∀ q, q < t + 1 → ¬ rdyT A n T q = true) ∨ True) := .inr trivial
        clear hz
        go_wp2_with fail
        clear c0
        go_loopw [18] (fun j wr => wr = w0 ∧ ∃ s : Nat, s ≤ n ∧ j = .int .i64 s ∧ Hid (∀ q, q < s → ¬ (A q t = true ∧ T q = false))) (fun j _ => n - (intOf j).toNat)
        case atStart => exact ⟨by first | trivial | rfl, 0, Nat.zero_le _, rfl, fun q h => absurd h (Nat.not_lt_zero _)⟩
        case round =>
          obtain ⟨hv, s, hs, rfl, HI⟩ := hrel
          obtain rfl := hv.symm
          by_cases hsl : s < n
          · have iS : (s : Int) < 24 := by omega
            have s24 : s < 24 := by omega
            have c1 := HQ0.out.1.cell s24 t24
            have c2 := HQ0.out.2.1.cell s24
            obtain ⟨x, hx⟩ : ∃ x, A s t = x := ⟨_, rfl⟩
            obtain ⟨y, hy⟩ : ∃ y, T s = y := ⟨_, rfl⟩
            rw [hx] at c1
            rw [hy] at c2
            have HI2 : ¬ (x = true ∧ y = false) → Hid (∀ q, q < s + 1 → ¬ (A q t = true ∧ T q = false)) := fun e q hq => by
              by_cases e2 : q = s
              · rw [e2, hx, hy]; exact e
              · exact HI.out q (by omega)
            have HF : x = true → y = false → Hid (∀ q, q < t + 1 → ¬ rdyT A n T q = true) := fun e1 e2 => HS (rdyT_waits hsl (hx.trans e1) (hy.trans e2))
            clear hx hy HS HL HN HI
            cases x
            · have HT := HI2 (by simp)
              clear HI2 HF
              go_wp2_with fail
              exact ⟨⟨by first | trivial | rfl, s + 1, by omega, by go_num, HT⟩, by simp [intOf]; omega⟩
            · cases y
              · have HT := HF rfl rfl
                clear HI2 HF
                go_wp2_with fail
                exact ⟨⟨by first | trivial | rfl, t + 1, by omega, by go_num, HT⟩, by simp [intOf]; omega⟩
              · have HT := HI2 (by simp)
                clear HI2 HF
                go_wp2_with fail
                exact ⟨⟨by first | trivial | rfl, s + 1, by omega, by go_num, HT⟩, by simp [intOf]; omega⟩
          · obtain rfl : s = n := by omega
            have HT := HL HI.out
            have HV : Hid (nxV A s T = .tuple #[.int .i64 (t : Int), .bool true]) := by
              show _ = _
              rw [nxV_yes (by rw [HT.out]; exact hlt), HT.out]
            clear HS HL HN HI HT
            go_wp2_with fail
            try rw [Exit.noGoto_ret]
            go_ret2
            exact ⟨by rw [HV.out]; rfl, HQ0.out.2.2⟩
      · have HT := HS (rdyT_placed hz)
        clear HS HN hz
        go_wp2_with fail
        exact ⟨⟨by first | trivial | rfl, t + 1, by omega, by go_num, HT⟩, by simp [intOf]; omega⟩
    · obtain rfl : t = n := by omega
      have HT : Hid (lea (rdyT A t T) t = t) := lea_no HN.out
      have HV : Hid (nxV A t T = .tuple #[.int .i64 0, .bool false]) := nxV_no (by rw [HT.out]; omega)
      clear HN HT
      go_wp2_with fail
      try rw [Exit.noGoto_ret]
      go_ret2
      exact ⟨by rw [HV.out]; rfl, HQ0.out.2.2⟩
end Go.Proofs.YtgaelbgeoobgiabDoor
