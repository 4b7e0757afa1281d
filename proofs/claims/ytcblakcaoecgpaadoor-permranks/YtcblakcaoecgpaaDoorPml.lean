/-
  A loop over the program's cycles, which makes memory and hands it on: what its body owes, and what holds behind it.
-/
import Derived.Test.YtcblakcaoecgpaaDoorPmi
namespace Go.Proofs.YtcblakcaoecgpaaDoor
open Go.RowKit Go.Shelf
set_option linter.unusedVariables false

/-- What lay outside three blocks from n on is as it was. -/
structure Kp3 (n : Nat) (W W' : World) : Prop where
  os : W'.os = W.os
  tape : W'.tape = W.tape
  output : W'.output = W.output
  size : W.heap.size ≤ W'.heap.size
  block : ∀ k, k < W.heap.size → (k < n ∨ n + 3 ≤ k) → W'.heap[k]? = W.heap[k]?
section
variable {n : Nat} {A B C : World}
theorem Kp3.trans (h : Kp3 n A B) (k : Kp3 n B C) : Kp3 n A C :=
  ⟨k.os.trans h.os, k.tape.trans h.tape, k.output.trans h.output, Nat.le_trans h.size k.size, fun i hi hn => (k.block i (Nat.lt_of_lt_of_le hi h.size) hn).trans (h.block i hi hn)⟩
theorem Kp3.grown {r : Nat} (h : A.grownBy B (some r)) (h1 : n ≤ r) (h2 : r < n + 3) : Kp3 n A B :=
  ⟨h.os, h.tape, h.output, h.size, fun i hi hn => h.block i hi (fun e => by cases e; omega)⟩
theorem Kp3.put (W : World) (o : Obj) {l : Nat} (h1 : n ≤ l) (h2 : l < n + 3) : Kp3 n W (W.putObj l o) := Kp3.grown (grownBy_putObj' W l o) h1 h2
theorem Kp3.alloc (W : World) (o : Obj) : Kp3 n W (W.alloc o) := ⟨rfl, rfl, rfl, by simp, fun i hi _ => Below.heap_alloc _ _ _ hi⟩
theorem Kp3.below {w : World} (h : Below w.heap.size w A) (k : Kp3 n A B) (hn : w.heap.size ≤ n) : Below w.heap.size w B :=
  h.trans ⟨k.os, k.tape, k.output, k.size, fun i hi => k.block i (Nat.lt_of_lt_of_le hi h.size) (.inl (by omega))⟩
theorem Kp3.bel {m : Nat} (h : Below m A B) (hm : A.heap.size ≤ m) : Kp3 n A B := ⟨h.os, h.tape, h.output, h.size, fun i hi _ => h.block i (by omega)⟩
end
theorem NewInts.held {lo : Nat} {W W' : World} (hk : ∀ k, lo ≤ k → k < W.heap.size → W'.heap[k]? = W.heap[k]?) (hs : W.heap.size ≤ W'.heap.size) {a : Option Addr} {zs : List Int} : NewInts lo W a zs → NewInts lo W' a zs
  | .inl e => .inl e
  | .inr ⟨b, off, e, h0, hb, hc, hz⟩ => .inr ⟨b, off, e, h0, Nat.lt_of_lt_of_le hb hs, fun j hj => (World.cell?_of_block (w := W) (a := ⟨b, off + j, none⟩) (hk b h0 hb)).trans (hc j hj), fun j => (World.frozen?_of_block (w := W) (a := ⟨b, off + j, none⟩) (hk b h0 hb)).trans (hz j)⟩
/-- What a round keeps: the list, its box, and the three blocks of the loop's own. -/
def Kpr (n₀ Bp n : Nat) (W W' : World) : Prop := ∀ k, k < n₀ ∨ k = Bp ∨ (n ≤ k ∧ k < n + 3) → W'.heap[k]? = W.heap[k]?
set_option maxHeartbeats 1000000 in
theorem cyc_range {g : Operand} {ps : Array Tmp} {assign body : Code} {Q : Exit → Act → World → Prop} {a : Act} {w : World} {n : Nat} (h1 : 2 ≤ n) (Bp n₀ : Nat) (aa : Option Addr) (cap : Nat) (p : List Int) (hp : IsOrd p) (h4 : p.length ≤ 4096)
    (hg : a.eval g = .func (.func 39) #[] #[.pointer (some ⟨Bp, 0, none⟩)]) (hBp : Bp < w.heap.size) (hc : w.cell? ⟨Bp, 0, none⟩ = some (.slice aa p.length cap)) (hn₀ : n₀ ≤ w.heap.size) (hIn : IsInts n₀ w aa p) (hps : ps.size = 1)
    (I : List Nat → World → Prop) (hI : ∀ hs A B, I hs A → Kp3 w.heap.size A B → I hs B) (h0 : I [] w) (a1 : Value → Act)
    (hassign : ∀ (l : Nat) (v : Value) (W : World) (K : Act → World → Prop), K (a1 v) W →
      assign.wpIn (Fence.wide.inRound l) (n - 1 - 1) Tryd.prog (Exit.then K (fun _ _ _ => False)) { tmps := (ps.zip #[v]).foldl (fun t (p, v) => t.setIfInBounds p v) a.tmps, defers := [] } W)
    (hbody : ∀ (l f : Nat) (A B : World) (g : Option Addr) (gc : Nat), f < p.length → hdB p f = true → I (hdT p f) A → w.heap.size + 3 ≤ A.heap.size → Kp3 w.heap.size A B → NewC A.heap.size B g (orb p f) gc →
      body.wpIn (Fence.wide.inRound l) (n - 1 - 1) Tryd.prog (fun e _ C => e = .normal ∧ Kpr n₀ Bp w.heap.size B C ∧ I (hdT p f ++ [f]) C) (a1 (.slice g (orb p f).length gc)) B)
    (hdone : ∀ W, I (heads p) W → W.heap[w.heap.size]? = some (.deferred (some [])) → Q .normal { a with defers := { target := .collected w.heap.size, args := #[] } :: a.defers } W) :
    (Code.rangeFunc g ps assign body).wpIn Fence.wide n Tryd.prog Q a w := by
  refine wpIn_rangeFunc fun fn hfn => ?_
  obtain ⟨rec, hrec⟩ : ∃ rec : LoopState → Option Code → Loop, rec = fun st pe => { state := st, pending := pe, fn, tmps := a.tmps, params := ps, assign, body, defers := w.heap.size } := ⟨_, rfl⟩
  obtain ⟨V, hV⟩ : ∃ V, V = (w.alloc (.deferred (some []))).alloc (.loop (rec .ready none)) := ⟨_, rfl⟩
  have hVs : V.heap.size = w.heap.size + 2 := by rw [hV]; simp
  have hVB : Below w.heap.size w V := by rw [hV]; exact ((Below.refl _ w).alloc (Nat.le_refl _) _).alloc (by simp) _
  have hVl : V.heap[w.heap.size + 1]? = some (.loop (rec .ready none)) := by
    rw [hV]; have := World.alloc_heap_new (w.alloc (.deferred (some []))) (.loop (rec .ready none)); rwa [World.size_alloc] at this
  have hVd : V.heap[w.heap.size]? = some (.deferred (some [])) := by
    rw [hV]; exact (Below.heap_alloc _ _ _ (by simp)).trans (World.alloc_heap_new w _)
  have hVI : I [] V := hI _ _ _ h0 (by rw [hV]; exact (Kp3.alloc _ _).trans (Kp3.alloc _ _))
  refine ⟨w.heap.size + 1, [{ target := .collected w.heap.size, args := #[] }], V, { target := .fn (.func 39) #[.pointer (some ⟨Bp, 0, none⟩)], args := #[.func (.yield (w.heap.size + 1)) #[] #[]] }, V, 39,
    #[.func (.yield (w.heap.size + 1)) #[] #[], .pointer (some ⟨Bp, 0, none⟩)], V, ?_, ?_, fun _ _ => trivial, ?_, fun _ => by omega, ?_⟩
  · rw [hV, hrec]; exact run_enterLoop_outer _ _ _ _ _
  · simp only [resolve, hg]
    simp [go_sem]
  · simp [invoke, go_sem]
  · refine (cy1_in (n - 1) (by omega) (w.heap.size + 1) Bp n₀ (w.heap.size + 2) aa cap p hp h4
      (fun hs W => I hs W ∧ W.heap[w.heap.size + 1]? = some (.loop (rec .ready none)) ∧ W.heap[w.heap.size]? = some (.deferred (some [])))
      (fun hs A B hA hgr => ⟨hI _ _ _ hA.1 (Kp3.grown hgr (by omega) (by omega)), (hgr.block _ (Array.getElem?_eq_some_iff.1 hA.2.1).1 (fun e => by have := Option.some.inj e; omega)).trans hA.2.1, (hgr.block _ (Array.getElem?_eq_some_iff.1 hA.2.2).1 (fun e => by have := Option.some.inj e; omega)).trans hA.2.2⟩)
      ?_ V hVs ((hVB.cell (p := ⟨Bp, 0, none⟩) hBp).trans hc) (by omega) (hIn.below (hVB.mono hn₀)) (by omega) ⟨hVI, hVl, hVd⟩).mono ?_
    · -- one round
      rintro f A B gg gc hf hd ⟨hIA, hlA, hdA⟩ hSA hgr hN
      have hlB : B.heap[w.heap.size + 1]? = some (.loop (rec .ready none)) := (hgr.block _ (Array.getElem?_eq_some_iff.1 hlA).1 (fun e => by have := Option.some.inj e; omega)).trans hlA
      have hdB' : B.heap[w.heap.size]? = some (.deferred (some [])) := (hgr.block _ (Array.getElem?_eq_some_iff.1 hdA).1 (fun e => by have := Option.some.inj e; omega)).trans hdA
      have hlt : w.heap.size + 1 < B.heap.size := (Array.getElem?_eq_some_iff.1 hlB).1
      have hy := run_yield (P := Tryd.prog) (args := #[.slice gg (orb p f).length gc]) hlB (by rw [hrec]; exact hps.symm)
      rw [hrec] at hy
      refine ⟨fn, _, assign, body, hy, roundIn_of_wpIn hfn (hassign _ _ B _ ⟨_, run_beginRound hlB (by rw [hrec]), ?_⟩)⟩
      obtain ⟨B2, hB2⟩ : ∃ B2, B2 = B.putObj (w.heap.size + 1) (.loop { rec .ready none with state := .busy }) := ⟨_, rfl⟩
      rw [← hB2]
      have hlB2 : B2.heap[w.heap.size + 1]? = some (.loop { rec .ready none with state := .busy }) := by rw [hB2]; exact World.putObj_heap_same hlt
      have hdB2 : B2.heap[w.heap.size]? = some (.deferred (some [])) := by rw [hB2]; exact (World.putObj_heap_other (by omega)).trans hdB'
      have hk2 : Kp3 w.heap.size A B2 := (Kp3.grown hgr (by omega) (by omega)).trans (by rw [hB2]; exact Kp3.put _ _ (by omega) (by omega))
      have hN2 : NewC A.heap.size B2 gg (orb p f) gc := ⟨hN.1.held (fun k hk hkb => by rw [hB2]; exact World.putObj_heap_other (by omega)) (by rw [hB2]; simp), hN.2⟩
      refine wpIn_mono (hbody _ f A B2 gg gc hf hd hIA (by omega) hk2 hN2) ?_
      rintro e a3 C ⟨rfl, hkr, hIC⟩
      have hlC : C.heap[w.heap.size + 1]? = some (.loop { rec .ready none with state := .busy }) := (hkr _ (.inr (.inr (by omega)))).trans hlB2
      have hdC : C.heap[w.heap.size]? = some (.deferred (some [])) := (hkr _ (.inr (.inr (by omega)))).trans hdB2
      have hend := run_endRound (P := Tryd.prog) none hlC
      refine ⟨_, _, hend, rfl, ⟨hI _ _ _ hIC (Kp3.put _ _ (by omega) (by omega)), ?_, (World.putObj_heap_other (by omega)).trans hdC⟩, ?_⟩
      · rw [World.putObj_heap_same (Array.getElem?_eq_some_iff.1 hlC).1, hrec]; rfl
      · intro k hk
        refine (World.putObj_heap_other (by omega)).trans ((hkr k (by omega)).trans ?_)
        rw [hB2]
        exact World.putObj_heap_other (by omega)
    · rintro e W2 ⟨⟨v, rfl⟩, hIW, hl, hd⟩
      have he := run_endLoop (P := Tryd.prog) hl (by rw [hrec]; simp)
      have hp : (rec .ready none).pending = none := by rw [hrec]
      rw [hp] at he
      exact ⟨none, _, he, hdone _ (hI _ _ _ hIW (Kp3.put _ _ (l := w.heap.size + 1) (by omega) (by omega))) ((World.putObj_heap_other (by omega)).trans hd)⟩
/-- The list is boxed; the function value captures the box. -/
theorem cyf_any (a : Option Addr) (len cap : Nat) (w : World) :
    Calls Tryd.prog 32 #[.slice a len cap] w fun e w' => e = .returned (.func (.func 39) #[] #[.pointer (some ⟨w.heap.size, 0, none⟩)]) ∧ w' = w.alloc (.cells #[.slice a len cap] 22) := by
  go_enter Tryd.func32, Tryd.ntmps32
  go_wp2
  go_ret
  exact ⟨rfl, rfl⟩
end Go.Proofs.YtcblakcaoecgpaaDoor
