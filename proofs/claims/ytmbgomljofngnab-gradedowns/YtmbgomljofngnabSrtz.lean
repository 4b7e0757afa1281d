/-
  The library's stable sort in place, of numbers, by whatever function value tells how two stand.
-/
import Derived.Test.YtmbgomljofngnabSrty
namespace Go.Proofs.Ytmbgomljofngnab
open Go.RowKit
set_option linter.unusedVariables false

/-- The merge, of any two runs. -/
theorem sm_any (S n sc : Nat) (f : Nat) (cs : List Value) (hE : ∀ args w, (callFunc f args).run Try.prog w = .ok (.enter f args) w) (lt : Nat → Nat → Bool) (c : Nat → Nat → Int) (T : Tot lt n) (hcl : ∀ x y, x < n → y < n → y < x → (c x y < 0 ↔ lt x y = true)) (w0 : World) (hC : CmpF f cs n c S w0) (hn : n ≤ 4096) : ∀ k, SmC S n sc f cs lt w0 k
  | 0 => fun a m b z w hk hl ho ha hb hbn _ _ _ _ _ => by omega
  | k + 1 => fun a m b z w hk hl ho ha hb hbn hr1 hr2 hs hw hrow => by
    by_cases h1 : m = a + 1
    · exact sm1_any S n sc f cs hE lt c T hcl w0 hC a m b z hl ho hn h1 hb hbn hr2 hs w hw hrow
    · by_cases h2 : b = m + 1
      · exact sm2_any S n sc f cs hE lt c T hcl w0 hC a m b z hl ho hn (by omega) h2 hbn hr1 hs w hw hrow
      · by_cases h3 : (a + b) / 2 < m
        · exact sm3a_any S n sc f cs hE lt c T hcl w0 hC a m b _ z hl ho hn (by omega) (by omega) hbn hr1 hr2 hs rfl h3 k hk (sm_any S n sc f cs hE lt c T hcl w0 hC hn k) w hw hrow
        · exact sm3b_any S n sc f cs hE lt c T hcl w0 hC a m b _ z hl ho hn (by omega) (by omega) hbn hr1 hr2 hs rfl (by omega) k hk (sm_any S n sc f cs hE lt c T hcl w0 hC hn k) w hw hrow
/-! ### Boundaries -/
/-- While the first runs are made. -/
def Q1 (a : Nat) (M : Nat) : Prop := a ≤ M ∨ M % 20 = 0
/-- While runs of that length are merged. -/
def Q2 (s a : Nat) (M : Nat) : Prop := (a ≤ M ∧ s ∣ M) ∨ 2 * s ∣ M
theorem mul_bd {s u t : Nat} (h : s * u < s * t) : u + 1 ≤ t := by
  by_cases q : t ≤ u
  · have := Nat.mul_le_mul_left s q; omega
  · omega
section
variable {lt : Nat → Nat → Bool} {n : Nat} {z : List Int}
theorem Sg.first (n : Nat) : Sg lt n (Q1 0) (idn n) := (Sg.start n).congr fun M _ _ => ⟨fun _ => .inl (Nat.zero_le _), fun _ => trivial⟩
/-- The numbers of a part that no run was made of yet rise. -/
theorem Sg.raw {Q : Nat → Prop} (h : Sg lt n Q z) {a b : Nat} (hb : b ≤ n) (hq : ∀ M, a ≤ M → M < b → Q M) : ∀ p q, a ≤ p → p < q → q < b → nt z p < nt z q := fun p q h1 h2 h3 => by
  have e1 := (h.bd q (by omega) (hq q (by omega) h3) p (by omega)).1 h2
  have e2 := (h.bd q (by omega) (hq q (by omega) h3) q (by omega))
  omega
theorem Sg.ins {z' : List Int} {a b : Nat} (ha : a % 20 = 0) (hab : a ≤ b) (hb : b ≤ n) (hq : b = a + 20 ∨ b = n ∧ b ≤ a + 20) (h : Sg lt n (Q1 a) z) (M : Mv a b z z') (hr : Ris lt z' a b) : Sg lt n (Q1 b) z' := by
  refine (h.next hab hb (.inr (.inl (Nat.le_refl _))) (.inr (.inl hab)) M hr).congr fun X h1 h2 => ?_
  unfold Q1
  omega
theorem Sg.runs {b : Nat} (h : Sg lt n (Q1 b) z) (hb : n ≤ b) : Sg lt n (Q2 20 0) z := h.congr fun X h1 h2 => by
  unfold Q1 Q2
  constructor
  · rintro (h | h)
    · omega
    · exact .inl ⟨Nat.zero_le _, Nat.dvd_of_mod_eq_zero h⟩
  · rintro (⟨_, h⟩ | h)
    · exact .inr (Nat.mod_eq_zero_of_dvd h)
    · exact .inr (by have := Nat.mod_eq_zero_of_dvd h; omega)
/-- No boundary between a multiple of two runs and the next one but that in the middle. -/
theorem q2_in {s t M : Nat} (h : Q2 s (2 * s * t) M) (h1 : 2 * s * t < M) (h2 : M < 2 * s * t + 2 * s) : M = 2 * s * t + s := by
  have key : s ∣ M := by
    rcases h with ⟨_, h⟩ | ⟨u, h⟩
    · exact h
    · exact ⟨2 * u, by rw [h, Nat.mul_comm 2 s, Nat.mul_assoc]⟩
  obtain ⟨u, rfl⟩ := key
  have e : 2 * s * t = s * (2 * t) := by rw [Nat.mul_comm 2 s, Nat.mul_assoc]
  have e2 : s * (2 * t) + 2 * s = s * (2 * t + 2) := by rw [Nat.mul_add, Nat.mul_comm s 2]
  rw [e] at h1 h2 ⊢
  rw [e2] at h2
  have b1 := mul_bd h1
  have b2 := mul_bd h2
  obtain rfl : u = 2 * t + 1 := by omega
  rw [Nat.mul_add, Nat.mul_one]
theorem q2_start (s t : Nat) : Q2 s (2 * s * t) (2 * s * t) := .inr ⟨t, rfl⟩
theorem q2_mid (s t : Nat) : Q2 s (2 * s * t) (2 * s * t + s) := .inl ⟨Nat.le_add_right _ _, ⟨2 * t + 1, by rw [Nat.mul_add, Nat.mul_one, Nat.mul_comm 2 s, Nat.mul_assoc]⟩⟩
theorem q2_end (s t : Nat) : Q2 s (2 * s * t) (2 * s * t + 2 * s) := .inr ⟨t + 1, by rw [Nat.mul_add, Nat.mul_one]⟩
/-- Two runs have been merged: the next two. -/
theorem Sg.merged {s t b : Nat} {z' : List Int} (hs : 0 < s) (h : Sg lt n (Q2 s (2 * s * t)) z) (hb : b ≤ n) (hm : 2 * s * t + s < b) (hq : b = 2 * s * t + 2 * s ∨ b = n ∧ b ≤ 2 * s * t + 2 * s) (M : Mv (2 * s * t) b z z') (hr : Ris lt z' (2 * s * t) b) : Sg lt n (Q2 s (2 * s * (t + 1))) z' := by
  have eT : 2 * s * (t + 1) = 2 * s * t + 2 * s := by rw [Nat.mul_add, Nat.mul_one]
  refine (h.next (by omega) hb (.inr (q2_start s t)) ?_ M hr).congr fun X h1 h2 => ?_
  · rcases hq with e | e
    · exact .inr (by rw [e]; exact q2_end s t)
    · exact .inl e.1
  · rw [eT]
    constructor
    · rintro ⟨hX, hn⟩
      by_cases c : 2 * s * t < X
      · have hbX : b ≤ X := by omega
        have : 2 * s * t + 2 * s ≤ X := by omega
        rcases hX with ⟨_, h⟩ | h
        · exact .inl ⟨this, h⟩
        · exact .inr h
      · rcases hX with ⟨h, _⟩ | h
        · have : X = 2 * s * t := by omega
          exact .inr (by rw [this]; exact ⟨t, rfl⟩)
        · exact .inr h
    · intro hX
      have hQ : Q2 s (2 * s * t) X := by
        rcases hX with ⟨h, h'⟩ | h
        · exact .inl ⟨by omega, h'⟩
        · exact .inr h
      refine ⟨hQ, fun c => ?_⟩
      have h3 := q2_in hQ c.1 (by omega)
      rcases hX with ⟨h, _⟩ | ⟨u, h⟩
      · omega
      · have b1 := mul_bd (s := 2 * s) (u := t) (t := u) (by omega)
        have := Nat.mul_le_mul_left (2 * s) b1
        rw [eT] at this
        omega
/-- One run alone is left, or none. -/
theorem Sg.lone {s t : Nat} (hs : 0 < s) (h : Sg lt n (Q2 s (2 * s * t)) z) (hb : n ≤ 2 * s * t + s) : Sg lt n (Q2 (2 * s) 0) z := h.congr fun X h1 h2 => by
  constructor
  · rintro (⟨h3, h⟩ | h)
    · by_cases c : X = 2 * s * t
      · exact .inl ⟨Nat.zero_le _, by rw [c]; exact ⟨t, rfl⟩⟩
      · have := q2_in (s := s) (t := t) (.inl ⟨h3, h⟩) (by omega) (by omega); omega
    · exact .inl ⟨Nat.zero_le _, h⟩
  · rintro (⟨_, h⟩ | ⟨u, h⟩)
    · exact .inr h
    · exact .inr ⟨2 * u, by rw [h, Nat.mul_comm 2 (2 * s), Nat.mul_assoc]⟩
theorem Sg.zero2 {s : Nat} (h : Sg lt n (Q2 s 0) z) : Sg lt n (Q2 s (2 * s * 0)) z := h
theorem Sg.all {s : Nat} (T : Tot lt n) (h : Sg lt n (Q2 s 0) z) (hs : n ≤ s) : z = grd lt n := h.done T fun M h1 h2 hQ => by
  have key : s ∣ M := by
    rcases hQ with ⟨_, h⟩ | ⟨u, h⟩
    · exact h
    · exact ⟨2 * u, by rw [h, Nat.mul_comm 2 s, Nat.mul_assoc]⟩
  have := Nat.le_of_dvd h1 key
  omega
end
set_option maxRecDepth 100000 in
set_option maxHeartbeats 4000000 in
theorem stab_any (S n sc : Nat) (f : Nat) (cs : List Value) (hE : ∀ args w, (callFunc f args).run Try.prog w = .ok (.enter f args) w) (lt : Nat → Nat → Bool) (c : Nat → Nat → Int) (T : Tot lt n) (hcl : ∀ x y, x < n → y < n → y < x → (c x y < 0 ↔ lt x y = true)) (w0 : World) (hC : CmpF f cs n c S w0) (hn : n ≤ 4096) (w : World) (hw : w0.grownBy w (some S)) (hrow : w.rowIs S 3 n (zc (idn n))) :
    Calls Try.prog 77 #[.slice (some ⟨S, 0, none⟩) n sc, .int .i64 (n : Nat), .func (.func f) #[] cs.toArray] w (SwP S n (grd lt n) w) := by
  have HR : Hid (w.rowIs S 3 n (zc (idn n))) := hrow
  have HT : Hid (Tot lt n) := T
  have HW0 : Hid (w0.grownBy w (some S)) := hw
  have HSM : Hid (∀ k, SmC S n sc f cs lt w0 k) := sm_any S n sc f cs hE lt c T hcl w0 hC hn
  have HIN : Hid (∀ {x y : Int} (a b : Nat) (z : List Int) (hl : z.length = n) (ho : IsOrd z) (hab : a ≤ b) (hb : b ≤ n) (hup : ∀ p q, a ≤ p → p < q → q < b → nt z p < nt z q) (w : World) (hw : w0.grownBy w (some S)) (hrow : w.rowIs S 3 n (zc z)) (hx : x = (a : Int)) (hy : y = (b : Int)),
      Calls Try.prog 82 #[.slice (some ⟨S, 0, none⟩) n sc, .int .i64 x, .int .i64 y, .func (.func f) #[] cs.toArray] w (Sod S n lt a b z w)) := by
    intro x y a b z hl ho hab hb hup w hw hrow hx hy
    subst hx hy
    exact ins_any S n sc f cs hE lt c T hcl w0 hC a b z hl ho hn hab hb hup w hw hrow
  clear hrow T hw hC hcl
  go_enter Try.func77, Try.ntmps77
  go_wp2_with fail
  go_loopw [7, 8] (fun va vb wr => ∃ (A : Nat) (zr : List Int), A ≤ n ∧ A % 20 = 0 ∧ va = .int .i64 A ∧ vb = .int .i64 ((A : Int) + 20) ∧ wr.rowIs S 3 n (zc zr) ∧ w.grownBy wr (some S) ∧ Sg lt n (Q1 A) zr) (fun va _ _ => n - (intOf va).toNat)
  case atStart => exact ⟨0, idn n, Nat.zero_le _, rfl, rfl, rfl, HR.out, World.grownBy.refl _ _, Sg.first n⟩
  case round =>
    obtain ⟨A, zr, hA, hA20, rfl, rfl, hrow, hG, hS⟩ := hrel
    have HRr : Hid (wr.rowIs S 3 n (zc zr)) := hrow
    have HG : Hid (w.grownBy wr (some S)) := hG
    have HS : Hid (Sg lt n (Q1 A) zr) := hS
    have HA20 : Hid (A % 20 = 0) := hA20
    clear hrow hG hS hA20
    by_cases hB : A + 20 ≤ n
    · go_wp2_with fail
      refine (HIN.out A (A + 20) zr HS.out.len HS.out.ord (by omega) hB (HS.out.raw hB fun M h1 h2 => .inl h1) wr (sgrown_t HW0.out HG.out) HRr.out rfl (by omega)).mono ?_
      rintro e v1 ⟨⟨v', rfl⟩, z1, hrow1, hG1, hM1, hr1⟩
      have HR1 : Hid (v1.rowIs S 3 n (zc z1)) := hrow1
      have HG1 : Hid (w.grownBy v1 (some S)) := sgrown_t HG.out hG1
      have HS1 : Hid (Sg lt n (Q1 (A + 20)) z1) := Sg.ins HA20.out (by omega) hB (.inl rfl) HS.out hM1 hr1
      clear hrow1 hG1 hM1 hr1
      go_wp2_with fail
      exact ⟨⟨A + 20, z1, hB, by have := HA20.out; omega, by congr 1, by congr 1, HR1.out, HG1.out, HS1.out⟩, by simp [intOf]; omega⟩
    · go_wp2_with fail
      refine (HIN.out A n zr HS.out.len HS.out.ord hA (Nat.le_refl _) (HS.out.raw (Nat.le_refl _) fun M h1 h2 => .inl h1) wr (sgrown_t HW0.out HG.out) HRr.out rfl rfl).mono ?_
      rintro e v1 ⟨⟨v', rfl⟩, z1, hrow1, hG1, hM1, hr1⟩
      have HR1 : Hid (v1.rowIs S 3 n (zc z1)) := hrow1
      have HG1 : Hid (w.grownBy v1 (some S)) := sgrown_t HG.out hG1
      have HS1 : Hid (Sg lt n (Q2 20 0) z1) := (Sg.ins HA20.out hA (Nat.le_refl _) (.inr ⟨rfl, by omega⟩) HS.out hM1 hr1).runs (Nat.le_refl _)
      clear hrow1 hG1 hM1 hr1
      go_wp2_with fail
      go_loopw [6] (fun vs wr => ∃ (s : Nat) (zr : List Int), 1 ≤ s ∧ s ≤ 8192 ∧ vs = .int .i64 s ∧ wr.rowIs S 3 n (zc zr) ∧ w.grownBy wr (some S) ∧ Sg lt n (Q2 s 0) zr) (fun vs _ => n - (intOf vs).toNat)
      case atStart => exact ⟨20, z1, by omega, by omega, rfl, HR1.out, HG1.out, HS1.out⟩
      case round =>
        obtain ⟨s, zs, hs1, hs2, rfl, hrow, hG, hS⟩ := hrel
        have HR2 : Hid (wr.rowIs S 3 n (zc zs)) := hrow
        have HG2 : Hid (w.grownBy wr (some S)) := hG
        have HS2 : Hid (Sg lt n (Q2 s 0) zs) := hS
        clear hrow hG hS
        by_cases hsn : s < n
        · go_wp2_with fail
          go_loopw [7, 8] (fun va vb wr => ∃ (A t : Nat) (zr : List Int), A ≤ n ∧ A = 2 * s * t ∧ va = .int .i64 A ∧ vb = .int .i64 ((A : Int) + 2 * s) ∧ wr.rowIs S 3 n (zc zr) ∧ w.grownBy wr (some S) ∧ Sg lt n (Q2 s (2 * s * t)) zr) (fun va _ _ => n - (intOf va).toNat)
          case atStart => exact ⟨0, 0, zs, Nat.zero_le _, rfl, rfl, by congr 1; omega, HR2.out, HG2.out, HS2.out⟩
          case round =>
            obtain ⟨B, t, zq, hBn, hBt, rfl, rfl, hrow, hG, hS⟩ := hrel
            have HR3 : Hid (wr.rowIs S 3 n (zc zq)) := hrow
            have HG3 : Hid (w.grownBy wr (some S)) := hG
            have HS3 : Hid (Sg lt n (Q2 s (2 * s * t)) zq) := hS
            have HBt : Hid (B = 2 * s * t) := hBt
            have HN : Hid (∀ b, b ≤ n → B + s < b → b ≤ B + 2 * s → Ris lt zq B (B + s) ∧ Ris lt zq (B + s) b ∧ Sep zq B (B + s) b) := fun b h1 h2 h3 => by
              refine ⟨hS.ris_in (by omega) fun M k1 k2 hQ => ?_, hS.ris_in h1 fun M k1 k2 hQ => ?_, hS.sep h1 (by rw [hBt]; exact q2_mid s t) h2⟩
              · have := q2_in hQ (by omega) (by omega); omega
              · have := q2_in hQ (by omega) (by omega); omega
            clear hrow hG hS hBt
            by_cases hB2 : B + 2 * s ≤ n
            · go_wp2_with fail
              obtain ⟨k1, k2, k3⟩ := HN.out (B + 2 * s) hB2 (by omega) (Nat.le_refl _)
              refine ((HSM.out (2 * s)).int B (B + s) (B + 2 * s) zq wr (by omega) HS3.out.len HS3.out.ord (by omega) (by omega) hB2 k1 k2 k3 (sgrown_t HW0.out HG3.out) HR3.out rfl (by omega) (by omega)).mono ?_
              rintro e v4 ⟨⟨v', rfl⟩, z4, hrow4, hG4, hM4, hr4⟩
              have HR4 : Hid (v4.rowIs S 3 n (zc z4)) := hrow4
              have HG4 : Hid (w.grownBy v4 (some S)) := sgrown_t HG3.out hG4
              have HS4 : Hid (Sg lt n (Q2 s (2 * s * (t + 1))) z4) := by
                have h1 := hM4
                have h2 := hr4
                rw [HBt.out] at h1 h2
                exact Sg.merged (by omega) HS3.out (b := 2 * s * t + 2 * s) (by rw [← HBt.out]; exact hB2) (by omega) (.inl rfl) h1 h2
              clear hrow4 hG4 hM4 hr4 k1 k2 k3
              go_wp2_with fail
              exact ⟨⟨B + 2 * s, t + 1, z4, hB2, by rw [HBt.out, Nat.mul_add, Nat.mul_one], by congr 1, by congr 1, HR4.out, HG4.out, HS4.out⟩, by simp [intOf]; omega⟩
            · by_cases hmn : B + s < n
              · go_wp2_with fail
                obtain ⟨k1, k2, k3⟩ := HN.out n (Nat.le_refl _) hmn (by omega)
                refine ((HSM.out (2 * s)).int B (B + s) n zq wr (by omega) HS3.out.len HS3.out.ord (by omega) hmn (Nat.le_refl _) k1 k2 k3 (sgrown_t HW0.out HG3.out) HR3.out rfl (by omega) rfl).mono ?_
                rintro e v4 ⟨⟨v', rfl⟩, z4, hrow4, hG4, hM4, hr4⟩
                have HR4 : Hid (v4.rowIs S 3 n (zc z4)) := hrow4
                have HG4 : Hid (w.grownBy v4 (some S)) := sgrown_t HG3.out hG4
                have HS4 : Hid (Sg lt n (Q2 (2 * s) 0) z4) := by
                  have h1 := hM4
                  have h2 := hr4
                  rw [HBt.out] at h1 h2
                  have h3 := HBt.out
                  refine Sg.lone (t := t + 1) (by omega) (Sg.merged (by omega) HS3.out (Nat.le_refl _) (by omega) (.inr ⟨rfl, by omega⟩) h1 h2) ?_
                  rw [Nat.mul_add, Nat.mul_one]; omega
                clear hrow4 hG4 hM4 hr4 k1 k2 k3
                go_wp2_with fail
                exact ⟨⟨2 * s, z4, by omega, by omega, by congr 1; omega, HR4.out, HG4.out, HS4.out⟩, by simp [intOf]; omega⟩
              · have HS4 : Hid (Sg lt n (Q2 (2 * s) 0) zq) := Sg.lone (by omega) HS3.out (by rw [← HBt.out]; omega)
                go_wp2_with fail
                exact ⟨⟨2 * s, zq, by omega, by omega, by congr 1; omega, HR3.out, HG3.out, HS4.out⟩, by simp [intOf]; omega⟩
        · have HE : Hid (zs = grd lt n) := HS2.out.all HT.out (by omega)
          go_wp2_with fail
          go_end0
          refine ⟨⟨_, rfl⟩, ?_, HG2.out⟩
          rw [← HE.out]
          exact HR2.out
set_option maxRecDepth 100000 in
set_option maxHeartbeats 4000000 in
theorem sort_any (S n sc : Nat) (f : Nat) (cs : List Value) (hE : ∀ args w, (callFunc f args).run Try.prog w = .ok (.enter f args) w) (lt : Nat → Nat → Bool) (c : Nat → Nat → Int) (T : Tot lt n) (hcl : ∀ x y, x < n → y < n → y < x → (c x y < 0 ↔ lt x y = true)) (w0 : World) (hC : CmpF f cs n c S w0) (hn : n ≤ 4096) (w : World) (hw : w0.grownBy w (some S)) (hrow : w.rowIs S 3 n (zc (idn n))) :
    Calls Try.prog 64 #[.slice (some ⟨S, 0, none⟩) n sc, .func (.func f) #[] cs.toArray] w (SwP S n (grd lt n) w) := by
  have HC : Hid (Calls Try.prog 77 #[.slice (some ⟨S, 0, none⟩) n sc, .int .i64 (n : Nat), .func (.func f) #[] cs.toArray] w (SwP S n (grd lt n) w)) := stab_any S n sc f cs hE lt c T hcl w0 hC hn w hw hrow
  clear hC hcl T hw hrow
  go_enter Try.func64, Try.ntmps64
  go_wp2_with fail
  refine HC.out.mono ?_
  rintro e v1 ⟨⟨v', rfl⟩, hrow1, hG1⟩
  go_wp2_with fail
  go_end0
  exact ⟨⟨_, rfl⟩, hrow1, hG1⟩
end Go.Proofs.Ytmbgomljofngnab
