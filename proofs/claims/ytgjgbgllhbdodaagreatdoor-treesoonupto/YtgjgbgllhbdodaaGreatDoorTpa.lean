/-
  Parts of a line in memory, and what a call may change.
-/
import Derived.Deep.AppendLies
import Derived.Test.YtgjgbgllhbdodaaGreatDoorBas9
import Derived.Test.YtgjgbgllhbdodaaGreatDoorTrd
namespace Go.Proofs.YtgjgbgllhbdodaaGreatDoor
open Go.RowKit Go.Lib
set_option linter.unusedVariables false

/-- But for one block, what was there is as it was. -/
structure Exc (b : Nat) (w w' : World) : Prop where
  os : w'.os = w.os
  tape : w'.tape = w.tape
  output : w'.output = w.output
  size : w.heap.size ≤ w'.heap.size
  block : ∀ k, k < w.heap.size → k ≠ b → w'.heap[k]? = w.heap[k]?
theorem Exc.refl (b : Nat) (w : World) : Exc b w w := ⟨rfl, rfl, rfl, Nat.le_refl _, fun _ _ _ => rfl⟩
theorem Exc.trans {b : Nat} {u v w : World} (h : Exc b u v) (k : Exc b v w) : Exc b u w :=
  ⟨k.os.trans h.os, k.tape.trans h.tape, k.output.trans h.output, Nat.le_trans h.size k.size, fun i hi hb => (k.block i (Nat.lt_of_lt_of_le hi h.size) hb).trans (h.block i hi hb)⟩
theorem Exc.bel {b n : Nat} {w w' : World} (h : Below n w w') (hn : w.heap.size ≤ n) : Exc b w w' := ⟨h.os, h.tape, h.output, h.size, fun k hk _ => h.block k (by omega)⟩
theorem Exc.alloc {b : Nat} {u w : World} (h : Exc b u w) (o : Obj) : Exc b u (w.alloc o) := h.trans (Exc.bel ((Below.refl w.heap.size w).alloc (Nat.le_refl _) o) (Nat.le_refl _))
theorem Exc.setCell {b : Nat} {u w : World} (h : Exc b u w) {p : Addr} (hp : p.block = b) (v : Value) : Exc b u (w.setCell p v) :=
  h.trans ⟨rfl, rfl, rfl, by simp [World.setCell], fun k _ hk => Below.heap_setCell _ _ _ _ (by omega)⟩
theorem Exc.setNew {b : Nat} {u w : World} (h : Exc b u w) {p : Addr} (hp : u.heap.size ≤ p.block) (v : Value) : Exc b u (w.setCell p v) :=
  ⟨h.os, h.tape, h.output, by simpa [World.setCell] using h.size, fun k hk hb => (Below.heap_setCell _ _ _ _ (by omega)).trans (h.block k hk hb)⟩
theorem Exc.drew {b : Nat} {u w : World} (h : Exc b u w) : Exc b u w.drew := ⟨h.os, h.tape, h.output, h.size, h.block⟩
theorem Exc.drewN {b : Nat} {u w : World} (h : Exc b u w) (n : Nat) : Exc b u (w.drewN n) := ⟨h.os, h.tape, h.output, h.size, h.block⟩
theorem Exc.below {b : Nat} {w w' : World} (h : Exc b w w') (hb : b ≤ w.heap.size) : Below b w w' := ⟨h.os, h.tape, h.output, h.size, fun k hk => h.block k (by omega) (by omega)⟩
/-- Where the block is one of the call's own. -/
theorem Exc.own {b : Nat} {u w w' : World} (h : Below u.heap.size u w) (k : Exc b w w') (hb : u.heap.size ≤ b) : Below u.heap.size u w' :=
  ⟨k.os.trans h.os, k.tape.trans h.tape, k.output.trans h.output, Nat.le_trans h.size k.size, fun i hi => (k.block i (Nat.lt_of_lt_of_le hi h.size) (by omega)).trans (h.block i hi)⟩

theorem Exc.grown {b : Nat} {u w w' : World} {row : Option Nat} (h : Exc b u w) (hg : w.grownBy w' row) (hr : ∀ k, row = some k → u.heap.size ≤ k) : Exc b u w' :=
  ⟨hg.os.trans h.os, hg.tape.trans h.tape, hg.output.trans h.output, Nat.le_trans h.size hg.size, fun k hk hb => (hg.block k (Nat.lt_of_lt_of_le hk h.size) (fun e => by have := hr k e.symm; omega)).trans (h.block k hk hb)⟩
theorem own_lo {w : World} {base : Nat} {e : TypeId} {size n : Nat} {v : Value} {xs : List Value} (h : w.ownsRow base e size v n xs) : ∀ k, v.ownBlock = some k → base ≤ k ∧ k < w.heap.size := by
  intro k hk
  rcases h.2 with ⟨rfl, _⟩ | ⟨g, cap, cur, rfl, h1, hg, _⟩
  · cases hk
  · obtain rfl := Option.some.inj hk
    exact ⟨h1, (Array.getElem?_eq_some_iff.1 hg).1⟩
/-- One value put behind those of a slice of the call's own. -/
theorem app_one {P : Program} {ops : Array Oper} {rest : List Oper} {o : Oper} {a : Act} {Q : Exit → Act → World → Prop} (tS e : TypeId) (z : Value) (bytes : Nat) (ht : P.underlying tS = some (.slice e)) (hi : (P.info? e).map (fun i => (i.zero, i.size, i.bytes)) = some (some z, 1, bytes)) (hz1 : z.cells.size = 1) (hb8 : bytes ≤ 64) (hgd : o.guard = none) (s x : Operand)
    (ho : o.op = .call { callee := .builtin .append, args := #[s, x], argTypes := #[tS, tS] })
    (W : World) (u : Value) (hu : u.oneCell' = true) (base : Nat) (v : Value) (n : Nat) (xs : List Value) (hs : a.eval s = v) (hx : a.eval x = .slice (some ⟨W.heap.size, 0, none⟩) 1 1) (hown : W.ownsRow base e 1 v n xs) (hn : n ≤ 1000000) (hbase : base ≤ W.heap.size)
    (k : ∀ g cap w', w'.ownsRow base e 1 (.slice (some ⟨g, 0, none⟩) (n + 1) cap) (n + 1) (xs ++ [u]) → W.grownBy w' v.ownBlock → (v.ownBlock = some g ∨ W.heap.size ≤ g) → g < w'.heap.size → wpList P ops Q rest (a.put o.dst (.slice (some ⟨g, 0, none⟩) (n + 1) cap)) w') :
    wpList P ops Q (o :: rest) a (W.alloc (.cells #[u] e)) := by
  obtain ⟨i0, hi0, hz0, hz2, hz3⟩ := info_parts hi
  have hown' : (W.alloc (.cells #[u] e)).ownsRow base e 1 v n xs := by
    refine ⟨hown.1, ?_⟩
    rcases hown.2 with h | ⟨g, cap, cur, ev, h1, hg, h2⟩
    · exact .inl h
    · exact .inr ⟨g, cap, cur, ev, h1, (Below.heap_alloc W _ g (Array.getElem?_eq_some_iff.1 hg).1).trans hg, h2⟩
  refine wpList_append_lies _ hgd s x tS ho base e i0 z 1 bytes ht hi0 hz0 hz2 hz3 hz1 (by decide) v n xs hs hown' ⟨W.heap.size, 0, none⟩ 1 1 [u] hx rfl (World.news_of_block (cs := #[u]) (World.alloc_heap_new W _)) (by simpa using hu) (by decide) (by unfold maxLen; omega) ?_ (by simp; omega) _ rfl ?_
  · have := Nat.mul_le_mul (show n + 1 ≤ 1000001 by omega) hb8
    omega
  intro g cap w' h1 h2 h3 h4
  refine k g cap w' h1 ⟨h2.os, h2.tape, h2.output, ?_, fun k hk hr => (h2.block k (by simp; omega) hr).trans (Below.heap_alloc W _ k hk)⟩ ?_ h4
  · have := h2.size; simp at this; omega
  · rcases h3 with h | h
    · exact .inl h
    · right; simp at h; omega

/-! Lists and parts, in blocks of some kind. -/
def NumX (A : Nat → Prop) (w : World) (a : Option Addr) (zs : List Int) : Prop :=
  zs = [] ∨ ∃ g off, a = some ⟨g, off, none⟩ ∧ g < w.heap.size ∧ A g ∧ ∀ j, j < zs.length → w.cell? ⟨g, off + j, none⟩ = some (.int .i64 (nth zs j))
def RowX (P : Value → List Nod → Prop) (A : Nat → Prop) (w : World) (a : Option Addr) (nss : List (List Nod)) : Prop :=
  nss = [] ∨ ∃ g off, a = some ⟨g, off, none⟩ ∧ g < w.heap.size ∧ A g ∧ ∀ j, j < nss.length → ∃ v, w.cell? ⟨g, off + j, none⟩ = some v ∧ P v (nss.getD j [])
/-- A value that is a part with these nodes; its lists lie in blocks of some kind. -/
def PartM (A : Nat → Prop) (w : World) : Nat → Value → List Nod → Prop
  | 0, _, _ => False
  | f + 1, v, ns =>
    (∃ a c zs, v = .iface 109 (.slice a zs.length c) ∧ NumX A w a zs ∧ ns = [⟨1, ac0, 0, zs, []⟩]) ∨
    (∃ x : List UInt8, v = .iface 111 (.string ⟨x.toArray⟩) ∧ ns = [⟨2, ac0, 0, [], x⟩]) ∨
    (∃ x : List UInt8, v = .iface 113 (.string ⟨x.toArray⟩) ∧ ns = [⟨3, ac0, 0, [], x⟩]) ∨
    (v = .iface 115 (.agg #[]) ∧ ns = [⟨4, ac0, 0, [], []⟩]) ∨
    (v = .iface 116 (.agg #[]) ∧ ns = [⟨5, ac0, 0, [], []⟩]) ∨
    (∃ (ac : Ac) (a : Option Addr) (c : Nat) (nss : List (List Nod)) (r : Value) (nr : List Nod), v = .iface 121 (.agg #[.int .i64 ac.op, .int .i64 ac.f, .int .i64 ac.g, .slice a nss.length c, r]) ∧
      RowX (PartM A w f) A w a nss ∧ PartM A w f r nr ∧ ns = ⟨6, ac, ((nss.length / 2 : Nat) : Int), [], []⟩ :: (nss.flatten ++ nr)) ∨
    (∃ (ac : Ac) (a : Option Addr) (c : Nat) (nss : List (List Nod)) (l : Value) (nl : List Nod) (r : Value) (nr : List Nod), v = .iface 126 (.agg #[.int .i64 ac.op, .int .i64 ac.f, .int .i64 ac.g, .slice a nss.length c, l, r]) ∧
      RowX (PartM A w f) A w a nss ∧ PartM A w f l nl ∧ PartM A w f r nr ∧ ns = ⟨7, ac, ((nss.length / 2 : Nat) : Int), [], []⟩ :: (nl ++ nss.flatten ++ nr)) ∨
    (∃ (a : Option Addr) (c : Nat) (nss : List (List Nod)) (t : Value) (nt : List Nod), v = .iface 128 (.agg #[t, .slice a nss.length c]) ∧
      RowX (PartM A w f) A w a nss ∧ PartM A w f t nt ∧ ns = ⟨8, ac0, (nss.length : Int), [], []⟩ :: (nt ++ nss.flatten)) ∨
    (∃ (x : List UInt8) (r : Value) (nr : List Nod), v = .iface 91 (.agg #[.string ⟨x.toArray⟩, r]) ∧ PartM A w f r nr ∧ ns = ⟨9, ac0, 0, [], x⟩ :: nr)
theorem RowX.imp {P Q : Value → List Nod → Prop} {A : Nat → Prop} {w : World} {a : Option Addr} {nss : List (List Nod)} (h : RowX P A w a nss) (hP : ∀ v ns, P v ns → Q v ns) : RowX Q A w a nss := by
  rcases h with h | ⟨g, off, e, hg, hA, hc⟩
  · exact .inl h
  · exact .inr ⟨g, off, e, hg, hA, fun j hj => by obtain ⟨v, h1, h2⟩ := hc j hj; exact ⟨v, h1, hP v _ h2⟩⟩
theorem RowX.go {P : Value → List Nod → Prop} {A : Nat → Prop} {w w' : World} {a : Option Addr} {nss : List (List Nod)} (h : RowX P A w a nss) (hs : w.heap.size ≤ w'.heap.size) (hA : ∀ k, k < w.heap.size → A k → w'.heap[k]? = w.heap[k]?) : RowX P A w' a nss := by
  rcases h with h | ⟨g, off, e, hg, hA', hc⟩
  · exact .inl h
  · exact .inr ⟨g, off, e, by omega, hA', fun j hj => by obtain ⟨v, h1, h2⟩ := hc j hj; exact ⟨v, (World.cell?_of_block (hA g hg hA')).trans h1, h2⟩⟩
theorem RowX.mono {P : Value → List Nod → Prop} {A B : Nat → Prop} {w : World} {a : Option Addr} {nss : List (List Nod)} (h : RowX P A w a nss) (hA : ∀ k, k < w.heap.size → A k → B k) : RowX P B w a nss := by
  rcases h with h | ⟨g, off, e, hg, hA', hc⟩
  · exact .inl h
  · exact .inr ⟨g, off, e, hg, hA g hg hA', hc⟩
theorem NumX.go {A : Nat → Prop} {w w' : World} {a : Option Addr} {zs : List Int} (h : NumX A w a zs) (hs : w.heap.size ≤ w'.heap.size) (hA : ∀ k, k < w.heap.size → A k → w'.heap[k]? = w.heap[k]?) : NumX A w' a zs := by
  rcases h with h | ⟨g, off, e, hg, hA', hc⟩
  · exact .inl h
  · exact .inr ⟨g, off, e, by omega, hA', fun j hj => (World.cell?_of_block (hA g hg hA')).trans (hc j hj)⟩
theorem NumX.mono {A B : Nat → Prop} {w : World} {a : Option Addr} {zs : List Int} (h : NumX A w a zs) (hA : ∀ k, k < w.heap.size → A k → B k) : NumX B w a zs := by
  rcases h with h | ⟨g, off, e, hg, hA', hc⟩
  · exact .inl h
  · exact .inr ⟨g, off, e, hg, hA g hg hA', hc⟩
theorem NumX.ints {A : Nat → Prop} {w : World} {a : Option Addr} {zs : List Int} (h : NumX A w a zs) : IsInts w.heap.size w a zs := by
  rcases h with h | ⟨g, off, e, hg, hA', hc⟩
  · exact .inl h
  · exact .inr ⟨g, off, e, hg, hc⟩
/-- One step of PartM, carried over. -/
theorem PartM.map {A B : Nat → Prop} {w w' : World} (hN : ∀ a zs, NumX A w a zs → NumX B w' a zs) (hR : ∀ P a nss, RowX P A w a nss → RowX P B w' a nss) :
    ∀ (f : Nat) (v : Value) (ns : List Nod), PartM A w f v ns → PartM B w' f v ns
  | 0, _, _, h => h.elim
  | f + 1, v, ns, h => by
    have ih := PartM.map hN hR f
    rcases h with ⟨a, c, zs, e, h1, e'⟩ | h | h | h | h | ⟨ac, a, c, nss, r, nr, e, h1, h2, e'⟩ | ⟨ac, a, c, nss, l, nl, r, nr, e, h1, h2, h3, e'⟩ | ⟨a, c, nss, t, nt, e, h1, h2, e'⟩ | ⟨x, r, nr, e, h1, e'⟩
    · exact .inl ⟨a, c, zs, e, hN a zs h1, e'⟩
    · exact .inr (.inl h)
    · exact .inr (.inr (.inl h))
    · exact .inr (.inr (.inr (.inl h)))
    · exact .inr (.inr (.inr (.inr (.inl h))))
    · exact .inr (.inr (.inr (.inr (.inr (.inl ⟨ac, a, c, nss, r, nr, e, (hR _ _ _ h1).imp ih, ih _ _ h2, e'⟩)))))
    · exact .inr (.inr (.inr (.inr (.inr (.inr (.inl ⟨ac, a, c, nss, l, nl, r, nr, e, (hR _ _ _ h1).imp ih, ih _ _ h2, ih _ _ h3, e'⟩))))))
    · exact .inr (.inr (.inr (.inr (.inr (.inr (.inr (.inl ⟨a, c, nss, t, nt, e, (hR _ _ _ h1).imp ih, ih _ _ h2, e'⟩)))))))
    · exact .inr (.inr (.inr (.inr (.inr (.inr (.inr (.inr ⟨x, r, nr, e, ih _ _ h1, e'⟩)))))))
theorem PartM.go {A : Nat → Prop} {w w' : World} {f : Nat} {v : Value} {ns : List Nod} (h : PartM A w f v ns) (hs : w.heap.size ≤ w'.heap.size) (hA : ∀ k, k < w.heap.size → A k → w'.heap[k]? = w.heap[k]?) : PartM A w' f v ns :=
  PartM.map (fun _ _ h => h.go hs hA) (fun _ _ _ h => h.go hs hA) f v ns h
theorem PartM.mono {A B : Nat → Prop} {w : World} {f : Nat} {v : Value} {ns : List Nod} (h : PartM A w f v ns) (hA : ∀ k, k < w.heap.size → A k → B k) : PartM B w f v ns :=
  PartM.map (fun _ _ h => h.mono hA) (fun _ _ _ h => h.mono hA) f v ns h
theorem PartM.up1 {A : Nat → Prop} {w : World} : ∀ {f : Nat} {v : Value} {ns : List Nod}, PartM A w f v ns → PartM A w (f + 1) v ns
  | 0, _, _, h => h.elim
  | f + 1, v, ns, h => by
    have ih : ∀ v ns, PartM A w f v ns → PartM A w (f + 1) v ns := fun v ns h => PartM.up1 h
    rcases h with ⟨a, c, zs, e, h1, e'⟩ | h | h | h | h | ⟨ac, a, c, nss, r, nr, e, h1, h2, e'⟩ | ⟨ac, a, c, nss, l, nl, r, nr, e, h1, h2, h3, e'⟩ | ⟨a, c, nss, t, nt, e, h1, h2, e'⟩ | ⟨x, r, nr, e, h1, e'⟩
    · exact .inl ⟨a, c, zs, e, h1, e'⟩
    · exact .inr (.inl h)
    · exact .inr (.inr (.inl h))
    · exact .inr (.inr (.inr (.inl h)))
    · exact .inr (.inr (.inr (.inr (.inl h))))
    · exact .inr (.inr (.inr (.inr (.inr (.inl ⟨ac, a, c, nss, r, nr, e, h1.imp ih, ih _ _ h2, e'⟩)))))
    · exact .inr (.inr (.inr (.inr (.inr (.inr (.inl ⟨ac, a, c, nss, l, nl, r, nr, e, h1.imp ih, ih _ _ h2, ih _ _ h3, e'⟩))))))
    · exact .inr (.inr (.inr (.inr (.inr (.inr (.inr (.inl ⟨a, c, nss, t, nt, e, h1.imp ih, ih _ _ h2, e'⟩)))))))
    · exact .inr (.inr (.inr (.inr (.inr (.inr (.inr (.inr ⟨x, r, nr, e, ih _ _ h1, e'⟩)))))))
theorem PartM.up {A : Nat → Prop} {w : World} {f g : Nat} {v : Value} {ns : List Nod} (h : PartM A w f v ns) (hg : f ≤ g) : PartM A w g v ns := by
  obtain ⟨k, rfl⟩ := Nat.exists_eq_add_of_le hg
  clear hg
  induction k with
  | zero => exact h
  | succ k ih => exact ih.up1
/-- A part, however deep. -/
def PartW (A : Nat → Prop) (w : World) (v : Value) (ns : List Nod) : Prop := ∃ f, PartM A w f v ns
section
variable {A B : Nat → Prop} {w w' : World} {v : Value} {ns : List Nod}
theorem PartW.go (h : PartW A w v ns) (hs : w.heap.size ≤ w'.heap.size) (hA : ∀ k, k < w.heap.size → A k → w'.heap[k]? = w.heap[k]?) : PartW A w' v ns := by
  obtain ⟨f, h⟩ := h; exact ⟨f, h.go hs hA⟩
theorem PartW.mono (h : PartW A w v ns) (hA : ∀ k, k < w.heap.size → A k → B k) : PartW B w v ns := by
  obtain ⟨f, h⟩ := h; exact ⟨f, h.mono hA⟩
theorem PartW.exc {b : Nat} (h : PartW A w v ns) (hE : Exc b w w') (hA : ∀ k, A k → k ≠ b) : PartW A w' v ns := h.go hE.size fun k hk ha => hE.block k hk (hA k ha)
theorem PartW.bel (h : PartW A w v ns) (hB : Below w.heap.size w w') : PartW A w' v ns := h.go hB.size fun k hk _ => hB.block k hk
end
/-- Parts, one behind the other, in a slice. -/
def RowW (A : Nat → Prop) (w : World) (a : Option Addr) (nss : List (List Nod)) : Prop := ∃ f, RowX (PartM A w f) A w a nss
theorem RowW.nil (A : Nat → Prop) (w : World) (a : Option Addr) : RowW A w a [] := ⟨0, .inl rfl⟩
section
variable {A B : Nat → Prop} {w w' : World} {a : Option Addr} {nss : List (List Nod)}
theorem RowW.go (h : RowW A w a nss) (hs : w.heap.size ≤ w'.heap.size) (hA : ∀ k, k < w.heap.size → A k → w'.heap[k]? = w.heap[k]?) : RowW A w' a nss := by
  obtain ⟨f, h⟩ := h; exact ⟨f, (h.go hs hA).imp fun v ns h => h.go hs hA⟩
theorem RowW.mono (h : RowW A w a nss) (hA : ∀ k, k < w.heap.size → A k → B k) : RowW B w a nss := by
  obtain ⟨f, h⟩ := h; exact ⟨f, (h.mono hA).imp fun v ns h => h.mono hA⟩
theorem RowW.exc {b : Nat} (h : RowW A w a nss) (hE : Exc b w w') (hA : ∀ k, A k → k ≠ b) : RowW A w' a nss := h.go hE.size fun k hk ha => hE.block k hk (hA k ha)
theorem RowW.bel (h : RowW A w a nss) (hB : Below w.heap.size w w') : RowW A w' a nss := h.go hB.size fun k hk _ => hB.block k hk
end
/-! The nine kinds of parts. -/
section
variable {A : Nat → Prop} {w : World}
theorem pw_num {a : Option Addr} {zs : List Int} (c n : Nat) (hn : zs.length = n) (h : NumX A w a zs) : PartW A w (.iface 109 (.slice a n c)) [⟨1, ac0, 0, zs, []⟩] := ⟨1, .inl ⟨a, c, zs, by rw [hn], h, rfl⟩⟩
theorem pw_text (x : List UInt8) : PartW A w (.iface 111 (.string ⟨x.toArray⟩)) [⟨2, ac0, 0, [], x⟩] := ⟨1, .inr (.inl ⟨x, rfl, rfl⟩)⟩
theorem pw_var (x : List UInt8) : PartW A w (.iface 113 (.string ⟨x.toArray⟩)) [⟨3, ac0, 0, [], x⟩] := ⟨1, .inr (.inr (.inl ⟨x, rfl, rfl⟩))⟩
theorem pw_alpha : PartW A w (.iface 115 (.agg #[])) [⟨4, ac0, 0, [], []⟩] := ⟨1, .inr (.inr (.inr (.inl ⟨rfl, rfl⟩)))⟩
theorem pw_omega : PartW A w (.iface 116 (.agg #[])) [⟨5, ac0, 0, [], []⟩] := ⟨1, .inr (.inr (.inr (.inr (.inl ⟨rfl, rfl⟩))))⟩
theorem pw_one (ac : Ac) {a : Option Addr} {nss : List (List Nod)} (c n : Nat) (hn : nss.length = n) {r : Value} {nr : List Nod} (h1 : RowW A w a nss) (h2 : PartW A w r nr) :
    PartW A w (.iface 121 (.agg #[.int .i64 ac.op, .int .i64 ac.f, .int .i64 ac.g, .slice a n c, r])) (⟨6, ac, ((n / 2 : Nat) : Int), [], []⟩ :: (nss.flatten ++ nr)) := by
  subst hn
  obtain ⟨f, h1⟩ := h1; obtain ⟨g, h2⟩ := h2
  exact ⟨max f g + 1, .inr (.inr (.inr (.inr (.inr (.inl ⟨ac, a, c, nss, r, nr, rfl, h1.imp fun v ns h => h.up (Nat.le_max_left _ _), h2.up (Nat.le_max_right _ _), rfl⟩)))))⟩
theorem pw_two (ac : Ac) {a : Option Addr} {nss : List (List Nod)} (c n : Nat) (hn : nss.length = n) {l r : Value} {nl nr : List Nod} (h1 : RowW A w a nss) (h2 : PartW A w l nl) (h3 : PartW A w r nr) :
    PartW A w (.iface 126 (.agg #[.int .i64 ac.op, .int .i64 ac.f, .int .i64 ac.g, .slice a n c, l, r])) (⟨7, ac, ((n / 2 : Nat) : Int), [], []⟩ :: (nl ++ nss.flatten ++ nr)) := by
  subst hn
  obtain ⟨f, h1⟩ := h1; obtain ⟨g, h2⟩ := h2; obtain ⟨k, h3⟩ := h3
  exact ⟨max f (max g k) + 1, .inr (.inr (.inr (.inr (.inr (.inr (.inl ⟨ac, a, c, nss, l, nl, r, nr, rfl, h1.imp fun v ns h => h.up (by omega), h2.up (by omega), h3.up (by omega), rfl⟩))))))⟩
theorem pw_pick {a : Option Addr} {nss : List (List Nod)} (c n : Nat) (hn : nss.length = n) {t : Value} {nt : List Nod} (h1 : RowW A w a nss) (h2 : PartW A w t nt) :
    PartW A w (.iface 128 (.agg #[t, .slice a n c])) (⟨8, ac0, (n : Int), [], []⟩ :: (nt ++ nss.flatten)) := by
  subst hn
  obtain ⟨f, h1⟩ := h1; obtain ⟨g, h2⟩ := h2
  exact ⟨max f g + 1, .inr (.inr (.inr (.inr (.inr (.inr (.inr (.inl ⟨a, c, nss, t, nt, rfl, h1.imp fun v ns h => h.up (Nat.le_max_left _ _), h2.up (Nat.le_max_right _ _), rfl⟩)))))))⟩
theorem pw_set (x : List UInt8) {r : Value} {nr : List Nod} (h : PartW A w r nr) : PartW A w (.iface 91 (.agg #[.string ⟨x.toArray⟩, r])) (⟨9, ac0, 0, [], x⟩ :: nr) := by
  obtain ⟨f, h⟩ := h
  exact ⟨f + 1, .inr (.inr (.inr (.inr (.inr (.inr (.inr (.inr ⟨x, r, nr, rfl, h, rfl⟩)))))))⟩
end
/-! Parts put one behind the other. -/
/-- A slice of the call's own that holds these parts; lo: where its block may lie from; what the parts lead to does not lie in it. -/
def GrowW (A : Nat → Prop) (lo : Nat) (w : World) (v : Value) (n : Nat) (nss : List (List Nod)) : Prop :=
  ∃ vs : List Value, vs.length = n ∧ nss.length = n ∧ w.ownsRow lo 58 1 v n vs ∧ ∀ j, j < n → PartW (fun k => A k ∧ some k ≠ v.ownBlock) w (vs.getD j .nilIface) (nss.getD j [])
theorem GrowW.nil (A : Nat → Prop) (lo : Nat) (w : World) : GrowW A lo w (.slice none 0 0) 0 [] := ⟨[], rfl, rfl, World.ownsRow_nil _ _ _ _, fun j hj => by omega⟩
/-- Read. -/
theorem GrowW.row {A : Nat → Prop} {lo : Nat} {w : World} {v : Value} {n : Nat} {nss : List (List Nod)} (h : GrowW A lo w v n nss) (hlo : ∀ k, lo ≤ k → A k) : ∃ a c, v = .slice a n c ∧ nss.length = n ∧ RowW A w a nss := by
  obtain ⟨vs, e1, e2, hO, hP⟩ := h
  have hall : ∃ f, ∀ j, j < n → PartM A w f (vs.getD j .nilIface) (nss.getD j []) := by
    have : ∀ m, m ≤ n → ∃ f, ∀ j, j < m → PartM A w f (vs.getD j .nilIface) (nss.getD j []) := by
      intro m
      induction m with
      | zero => exact fun _ => ⟨0, fun j hj => by omega⟩
      | succ m ih =>
        intro hm
        obtain ⟨f, hf⟩ := ih (by omega)
        obtain ⟨g, hg⟩ := (hP m (by omega)).mono (B := A) (fun k _ h => h.1)
        refine ⟨max f g, fun j hj => ?_⟩
        by_cases e : j = m
        · subst e; exact hg.up (Nat.le_max_right _ _)
        · exact (hf j (by omega)).up (Nat.le_max_left _ _)
    exact this n (Nat.le_refl _)
  obtain ⟨f, hf⟩ := hall
  rcases hO.2 with ⟨rfl, h0⟩ | ⟨g, cap, cur, rfl, h1, hg, h2, _, h3, h4⟩
  · have : n = 0 := h0
    subst this
    exact ⟨none, 0, rfl, e2, ⟨f, .inl (List.eq_nil_of_length_eq_zero e2)⟩⟩
  · refine ⟨some ⟨g, 0, none⟩, cap, rfl, e2, ⟨f, .inr ⟨g, 0, rfl, (Array.getElem?_eq_some_iff.1 hg).1, hlo g h1, fun j hj => ⟨vs.getD j .nilIface, ?_, hf j (by omega)⟩⟩⟩⟩
    rw [List.getD_eq_getElem?_getD, ← h4, List.getElem?_take, if_pos (by omega)]
    simp only [World.cell?, hg]
    have : j < cur.size := by omega
    simp [this]
theorem GrowW.go {A : Nat → Prop} {lo b : Nat} {w w' : World} {v : Value} {n : Nat} {nss : List (List Nod)} (h : GrowW A lo w v n nss) (hE : Exc b w w') (hA : ∀ k, A k → k ≠ b) (hlo : b < lo) : GrowW A lo w' v n nss := by
  obtain ⟨vs, e1, e2, hO, hP⟩ := h
  refine ⟨vs, e1, e2, ⟨hO.1, ?_⟩, fun j hj => (hP j hj).exc hE fun k hk => hA k hk.1⟩
  rcases hO.2 with h | ⟨g, cap, cur, e, h1, hg, h2⟩
  · exact .inl h
  · exact .inr ⟨g, cap, cur, e, h1, (hE.block g (Array.getElem?_eq_some_iff.1 hg).1 (by omega)).trans hg, h2⟩
/-- One more, behind an append. -/
theorem GrowW.snoc {A : Nat → Prop} {lo : Nat} {w w' : World} {v : Value} {n : Nat} {nss : List (List Nod)} {vs : List Value} {x : Value} {ns : List Nod}
    (e1 : vs.length = n) (e2 : nss.length = n) (hP : ∀ j, j < n → PartW (fun k => A k ∧ some k ≠ v.ownBlock) w (vs.getD j .nilIface) (nss.getD j []))
    (hx : PartW (fun k => A k ∧ some k ≠ v.ownBlock) w x ns) {g cap : Nat}
    (hO : w'.ownsRow lo 58 1 (.slice (some ⟨g, 0, none⟩) (n + 1) cap) (n + 1) (vs ++ [x])) (hg : w.grownBy w' v.ownBlock) (hgb : v.ownBlock = some g ∨ w.heap.size ≤ g) :
    GrowW A lo w' (.slice (some ⟨g, 0, none⟩) (n + 1) cap) (n + 1) (nss ++ [ns]) := by
  have key : ∀ y ms, PartW (fun k => A k ∧ some k ≠ v.ownBlock) w y ms → PartW (fun k => A k ∧ some k ≠ (Value.slice (some ⟨g, 0, none⟩) (n + 1) cap).ownBlock) w' y ms := by
    intro y ms h
    have h2 : PartW (fun k => A k ∧ some k ≠ v.ownBlock) w' y ms := h.go hg.size fun k hk ha => hg.block k hk ha.2
    refine (h.mono (B := fun k => (A k ∧ some k ≠ v.ownBlock) ∧ k < w.heap.size) fun k hk ha => ⟨ha, hk⟩).go hg.size (fun k hk ha => hg.block k hk ha.1.2) |>.mono ?_
    intro k _ ha
    refine ⟨ha.1.1, ?_⟩
    show some k ≠ some g
    rcases hgb with e | e
    · rw [← e]; exact ha.1.2
    · intro q; have := Option.some.inj q; omega
  refine ⟨vs ++ [x], by simp [e1], by simp [e2], hO, fun j hj => ?_⟩
  by_cases e : j = n
  · subst e
    rw [List.getD_eq_getElem?_getD, List.getD_eq_getElem?_getD, List.getElem?_append_right (by omega), List.getElem?_append_right (by omega), e1, e2]
    simp only [Nat.sub_self, List.getElem?_cons_zero, Option.getD_some]
    exact key _ _ hx
  · have hj' : j < n := by omega
    rw [List.getD_eq_getElem?_getD, List.getD_eq_getElem?_getD, List.getElem?_append_left (by omega), List.getElem?_append_left (by omega), ← List.getD_eq_getElem?_getD, ← List.getD_eq_getElem?_getD]
    exact key _ _ (hP j hj')
/-- One part in a block that was just made. -/
theorem GrowW.one {A : Nat → Prop} {lo : Nat} {w : World} {x : Value} {ns : List Nod} (hlo : lo ≤ w.heap.size) (hx : PartW A w x ns) :
    GrowW A lo (w.alloc (.cells #[x] 58)) (.slice (some ⟨w.heap.size, 0, none⟩) 1 1) 1 [ns] := by
  refine ⟨[x], rfl, rfl, ⟨rfl, .inr ⟨w.heap.size, 1, #[x], rfl, hlo, World.alloc_heap_new w _, by omega, by decide, rfl, rfl⟩⟩, fun j hj => ?_⟩
  obtain rfl : j = 0 := by omega
  show PartW _ _ x ns
  refine (hx.mono (B := fun k => A k ∧ k < w.heap.size) fun k hk ha => ⟨ha, hk⟩).go (by simp) (fun k hk ha => Below.heap_alloc w _ k hk) |>.mono ?_
  intro k _ ha
  refine ⟨ha.1, ?_⟩
  show some k ≠ some w.heap.size
  intro q; have := Option.some.inj q; omega
end Go.Proofs.YtgjgbgllhbdodaaGreatDoor
