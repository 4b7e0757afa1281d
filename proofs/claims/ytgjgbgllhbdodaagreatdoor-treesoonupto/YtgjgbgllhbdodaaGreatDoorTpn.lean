/-
  The reader of words: what an expression tells, and a line.
-/
import Derived.Test.YtgjgbgllhbdodaaGreatDoorTpm
namespace Go.Proofs.YtgjgbgllhbdodaaGreatDoor
open Go.RowKit Go.Lib
set_option linter.unusedVariables false

theorem hfn_of {ts : List TkA} {i : Nat} {dp : Int} {wr : Bool} (hi : i ≤ ts.length) (h : fnK (kdV ts i dp wr) = true) : hfn (lx ts i) = true := by
  obtain ⟨_, hlt, hkd⟩ := kdV_pos (dp := dp) (wr := wr) hi (by intro e; rw [e] at h; exact absurd h (by decide))
  rw [lx_at ts hlt]
  simp only [hfn]
  rw [← hkd]; exact h
/-- A function's first word that cannot stand here. -/
theorem hfn_not {ts : List TkA} {i : Nat} {dp : Int} (hi : i ≤ ts.length) (h : fnK (kdV ts i dp false) = false) (h2 : hfn (lx ts i) = true) : i < ts.length ∧ (tkz ts i).1.kind = 20 ∧ dp = 0 ∧ kdV ts i dp false = 0 := by
  have hlt : i < ts.length := by
    rcases Nat.lt_or_ge i ts.length with h | h
    · exact h
    · rw [lx_end ts h] at h2; cases h2
  rw [lx_at ts hlt] at h2
  simp only [hfn] at h2
  by_cases h3 : ((tkz ts i).1.kind = 18 ∨ (tkz ts i).1.kind = 19 ∨ (tkz ts i).1.kind = 20) ∧ dp = 0
  · have h20 : (tkz ts i).1.kind = 20 := by
      rcases h3.1 with e | e | e
      · rw [e] at h2; exact absurd h2 (by decide)
      · rw [e] at h2; exact absurd h2 (by decide)
      · exact e
    refine ⟨hlt, h20, h3.2, ?_⟩
    unfold kdV
    rw [if_neg (by simp; omega), if_pos h3]
  · unfold kdV at h
    rw [if_neg (by simp; omega), if_neg h3, h2] at h
    cases h
theorem fnP_del (E : Bool → List Tk → Rp) {t : Tk} {r : List Tk} (h : t.kind = 20) : fnP E false (t :: r) = .error (r.length + 1) := by
  simp only [fnP]
  rw [if_neg (by rw [h]; decide), if_neg (by rw [h]; decide), if_neg (by simp), if_neg (by rw [h]; decide)]
/-- What an expression tells, behind a function and behind a part. -/
theorem expression_any (rb : Nat) (a : Option Addr) (cap : Nat) (ts : List TkA) (hG : RgT ts) (hl : ts.length ≤ 1000) : ∀ f, EcP rb a cap ts (exP f) f
  | 0 => fun i dp wr w hi h0 hdp hF => by omega
  | f + 1 => by
    have hE := expression_any rb a cap ts hG hl f
    intro i dp wr w hi h0 hdp hF hR hT
    have hbs := hR.lt
    obtain ⟨b, hb⟩ : ∃ b, b = decide (0 < dp) := ⟨_, rfl⟩
    by_cases hk : fnK (kdV ts i dp wr) = true
    · have hn0 : kdV ts i dp wr ≠ 0 := by intro e; rw [e] at hk; exact absurd hk (by decide)
      have hw := (kdV_pos hi hn0).1
      refine (ex_one rb a cap ts hG hl (exP f) f hE i hi dp wr h0 hdp (by omega) hk hw w hR hT).mono ?_
      rintro e w' ⟨x0, x1, x2, sa, n, sc, j1, wr1, v, j2, wr2, w1, w2, rfl, hE1, hR1, hij, hj12, hj2, hL, hE2, hz, hX, hD⟩
      refine ⟨_, j2, wr2, rfl, rfl, hE1, hR1, by omega, hj2, fun _ => ?_, fun h => absurd h hn0⟩
      simp only [exP]
      rw [← hb] at hL hX ⊢
      rw [if_pos (hfn_of hi hk)]
      unfold agP
      match e : fnP (exP f) b (lx ts i) with
      | .error k =>
        rw [e] at hL
        obtain ⟨q1, q2, q3⟩ := hL
        obtain ⟨rfl, rfl⟩ := hD q2
        exact ⟨q1, kdV_wr _ _ _, fun _ => rfl⟩
      | .ok ((ac, m, body), r) =>
        rw [e] at hL
        obtain ⟨rfl, rfl, rfl, nss, h1, rfl, rfl, h4⟩ := hL
        have hX := hX rfl
        simp only []
        match e2 : exP f b (lx ts j1) with
        | .error k => rw [e2] at hX; exact hX
        | .ok (ns, s) =>
          rw [e2] at hX
          obtain ⟨rfl, q1, rfl, q2⟩ := hX
          refine ⟨rfl, by omega, rfl, ?_⟩
          have := pw_one (A := fun k => w.heap.size ≤ k) ⟨x0, x1, x2⟩ sc n h1 (h4.exc hE2 (fun k hk => by omega)) (q2.mono fun k _ hk => by omega)
          simpa using this
    · have hk' : fnK (kdV ts i dp wr) = false := by simpa using hk
      refine (ex_two rb a cap ts hG hl (exP f) f hE i hi dp wr h0 hdp (by omega) hk' w hR hT).mono ?_
      rintro e w' ⟨u, j0, wr0, w0, hu, hE0, hij0, hj0, hL0, hD0, hE0', hor⟩
      have hA : ∀ k, w.heap.size ≤ k → k ≠ rb := fun k hk => by omega
      rcases hor with ⟨hf, rfl, hR0⟩ | ⟨hf, x0, x1, x2, sa, n, sc, j1, wr1, v, j2, wr2, w1, w2, rfl, hR1, hij, hj12, hj2, hL, hE2, hz, hX, hD⟩
      · refine ⟨u, j0, wr0, rfl, hu, hE0.trans hE0', hR0, hij0, hj0, fun hw => ?_, hD0⟩
        subst hw
        have hL0 := hL0 rfl
        simp only [exP]
        rw [← hb] at hL0 ⊢
        by_cases hh : hfn (lx ts i) = true
        · rw [if_pos hh]
          obtain ⟨hlt, h20, rfl, hz0⟩ := hfn_not hi hk' hh
          obtain ⟨rfl, rfl⟩ := hD0 hz0
          rw [hb, lx_at ts hlt]
          unfold agP
          rw [show decide ((0 : Int) < 0) = false by decide, fnP_del _ h20]
          exact DedO.of hi _ (by rw [lx_len]; omega)
        · rw [if_neg hh]
          match e : tmP (exP f b) b (lx ts i) with
          | .error k => rw [e] at hL0; exact hL0
          | .ok (ms, r) =>
            rw [e] at hL0
            obtain ⟨rfl, q1, rfl, q2⟩ := hL0
            simp only []
            by_cases hh2 : hfn (lx ts j0) = true
            · rw [if_pos hh2]
              obtain ⟨hlt, h20, rfl, hz0⟩ := hfn_not hj0 hf hh2
              rw [hb, lx_at ts hlt]
              unfold agP
              rw [show decide ((0 : Int) < 0) = false by decide, fnP_del _ h20]
              exact ⟨by rw [lx_len]; omega, hz0, fun h => by omega⟩
            · rw [if_neg hh2]
              exact ⟨rfl, q1, rfl, q2.exc hE0' hA⟩
      · have hn0 : kdV ts j0 dp wr0 ≠ 0 := by intro e; rw [e] at hf; exact absurd hf (by decide)
        obtain ⟨rfl, _, _⟩ := kdV_pos hj0 hn0
        refine ⟨_, j2, wr2, rfl, rfl, hE0.trans hE0', hR1, by omega, hj2, fun hw => ?_, fun h => by have := (hD0 h).2; cases this⟩
        subst hw
        have hL0 := hL0 rfl
        simp only [exP]
        rw [← hb] at hL0 hL hX ⊢
        by_cases hh : hfn (lx ts i) = true
        · obtain ⟨hlt, h20, rfl, hz0⟩ := hfn_not hi hk' hh
          have := (hD0 hz0).2
          cases this
        rw [if_neg hh]
        match e : tmP (exP f b) b (lx ts i) with
        | .error k =>
          rw [e] at hL0
          exact absurd hL0.2.1 hn0
        | .ok (ms, r) =>
          rw [e] at hL0
          obtain ⟨rfl, q1, _, q2⟩ := hL0
          simp only []
          rw [if_pos (hfn_of hj0 hf)]
          unfold agP
          match e1 : fnP (exP f) b (lx ts j0) with
          | .error k =>
            rw [e1] at hL
            obtain ⟨p1, p2, p3⟩ := hL
            obtain ⟨rfl, rfl⟩ := hD p2
            exact ⟨p1, kdV_wr _ _ _, fun _ => rfl⟩
          | .ok ((ac, m, body), r) =>
            rw [e1] at hL
            obtain ⟨rfl, rfl, rfl, nss, h1, rfl, rfl, h4⟩ := hL
            have hX := hX rfl
            simp only []
            match e2 : exP f b (lx ts j1) with
            | .error k => rw [e2] at hX; exact hX
            | .ok (ns, s) =>
              rw [e2] at hX
              obtain ⟨rfl, p1, rfl, p2⟩ := hX
              refine ⟨rfl, by omega, rfl, ?_⟩
              have := pw_two (A := fun k => w.heap.size ≤ k) ⟨x0, x1, x2⟩ sc n h1 (h4.exc hE2 hA) (q2.exc hE0' hA) (p2.mono fun k _ hk => by omega)
              simpa using this
end Go.Proofs.YtgjgbgllhbdodaaGreatDoor
