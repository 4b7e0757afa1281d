/-
  A region that draws its order, told shortly: which operations have come up, as a list; the side goals by themselves.
-/
import Derived.BigQuiet
import Derived.Test.YtgjgbgllhbdodaaGreatDoorBas9
import Derived.Test.YtgjgbgllhbdodaaGreatDoorHold
namespace Go.Proofs.YtgjgbgllhbdodaaGreatDoor
set_option linter.unusedVariables false

/-- Of k operations these have come up. -/
def fl (k : Nat) : List Nat → Array Bool
  | [] => Array.replicate k false
  | i :: L => (fl k L).setIfInBounds i true
section
variable {P : Program} {ops : Array Oper} {Q : Exit → Act → World → Prop} {md : Region.Mode} {s : Nat} {C : World → Prop} {n k : Nat} {L : List Nat} {a a' : Act} {w : World} {d : Nat} {v : Value} {oi : Oper}
theorem bT (s : Nat) (C : World → Prop) (k : Nat) {id : Nat} (hC : C w.drew) (h : C w.drew → anyT P .any ops Q s C k (fl k []) a w.drew) (hm : P.follows .mixedOrders = true := by kernel_rfl) (hn : ops.size = k := by rfl) : (Code.region id ops true).wp P Q a w :=
  anyT_begin s C k (fl k []) hm hn (by rw [hn]; rfl) (h hC)
/-- What yields its value in whatever world. -/
theorem pT (i : Nat) (hC : C w) (h : anyT P md ops Q s C n (fl k (i :: L)) a' w) (hi : ops[i]? = some oi := by rfl) (hd : oi.dst = some d := by rfl)
    (hy : Yields P ops oi v a := by first | exact Or.inl ⟨by rfl, by intro w'; go_simp; first | done | rfl⟩ | exact Or.inr ⟨by rfl, rfl⟩ | exact Or.inr ⟨by rfl, by rfl⟩)
    (ha : a.put (some d) v = a' := by simp only [Act.put, List.setIfInBounds_toArray, List.set_cons_zero, List.set_cons_succ]; rfl)
    (hs : Region.noSelect ops = true := by kernel_rfl) (hf : Region.free md ops (fl k L) i = true := by kernel_rfl) (hr : (Region.ready md ops (fl k L)).contains i = true := by kernel_rfl)
    (hQ : ∀ c a w, Q (.panic c) (a.put oi.dst v) w → Q (.panic c) a w := by exact fun _ _ _ h => h) (his : i ≠ s := by decide) : anyT P md ops Q s C (n + 1) (fl k L) a w :=
  anyT_put i d v (fl k (i :: L)) hi hd rfl hs hf hr hQ his hy (fun _ => hC) (by rw [ha]; exact h)
/-- A load, taken first. -/
theorem lT (i : Nat) (hC : C w) (h : anyT P md ops Q s C n (fl k (i :: L)) a' w) (hi : ops[i]? = some oi := by rfl) (hd : oi.dst = some d := by rfl)
    (hy : YieldsIf P ops C oi v a := by first | exact Or.inl ⟨by rfl, by intro w' hw'; (try dsimp only at hw'); go_simp; first | done | rfl⟩ | exact Or.inr ⟨by rfl, rfl⟩ | exact Or.inr ⟨by rfl, by rfl⟩)
    (ha : a.put (some d) v = a' := by simp only [Act.put, List.setIfInBounds_toArray, List.set_cons_zero, List.set_cons_succ]; rfl)
    (hs : Region.noSelect ops = true := by kernel_rfl) (hf : Region.free md ops (fl k L) i = true := by kernel_rfl) (hr : (Region.ready md ops (fl k L)).contains i = true := by kernel_rfl)
    (hQ : ∀ c a w, Q (.panic c) (a.put oi.dst v) w → Q (.panic c) a w := by exact fun _ _ _ h => h) (hw : waitsB md ops s i = true := by kernel_rfl) (his : i ≠ s := by decide) (hl : (fl k L).getD s true = false := by kernel_rfl) : anyT P md ops Q s C (n + 1) (fl k L) a w :=
  anyT_take i d v (fl k (i :: L)) hi hd rfl hs hf hr hQ hw his hl hy hC (by rw [ha]; exact h)
/-- One alone may come up. -/
theorem oT (i : Nat) (h : ∀ K : Act → World → Prop, RowKit.Hid (∀ a w, Till s C (fl k (i :: L)) w → anyT P md ops Q s C n (fl k (i :: L)) a w → K a w) → if Region.wanted oi (yielded ops a.tmps) = true then Oper.wp P oi a w K Q else K (a.put oi.dst undef) w)
    (hr : Region.ready md ops (fl k L) = [i] := by kernel_rfl) (ho : ops[i]? = some oi := by rfl) : anyT P md ops Q s C (n + 1) (fl k L) a w := anyT_one i (fl k (i :: L)) hr ho rfl h
/-- Either of two. -/
theorem rT (i j : Nat) {oj : Oper} (h1 : ∀ K : Act → World → Prop, RowKit.Hid (∀ a w, Till s C (fl k (i :: L)) w → anyT P md ops Q s C n (fl k (i :: L)) a w → K a w) → if Region.wanted oi (yielded ops a.tmps) = true then Oper.wp P oi a w K Q else K (a.put oi.dst undef) w)
    (h2 : ∀ K : Act → World → Prop, RowKit.Hid (∀ a w, Till s C (fl k (j :: L)) w → anyT P md ops Q s C n (fl k (j :: L)) a w → K a w) → if Region.wanted oj (yielded ops a.tmps) = true then Oper.wp P oj a w K Q else K (a.put oj.dst undef) w)
    (hr : Region.ready md ops (fl k L) = [i, j] := by kernel_rfl) (hi : ops[i]? = some oi := by rfl) (hj : ops[j]? = some oj := by rfl) : anyT P md ops Q s C (n + 1) (fl k L) a w := anyT_br2 i j (fl k (i :: L)) (fl k (j :: L)) hr hi hj rfl rfl h1 h2
theorem dT (h : Q .normal a w) (hr : Region.ready md ops (fl k L) = [] := by kernel_rfl) : anyT P md ops Q s C 0 (fl k L) a w := anyT_done hr h
/-! ### Where nothing is stored -/
theorem bH (C : World → Prop) (k : Nat) {id : Nat} (hC : C w.drew) (h : C w.drew → anyC P .any ops Q C k (fl k []) a w.drew) (hm : P.follows .mixedOrders = true := by kernel_rfl) (hn : ops.size = k := by rfl) : (Code.region id ops true).wp P Q a w :=
  anyC_begin C k (fl k []) hm hn (by rw [hn]; rfl) (h hC)
theorem pH (i : Nat) (hC : C w) (h : anyC P md ops Q C n (fl k (i :: L)) a' w) (hi : ops[i]? = some oi := by rfl) (hd : oi.dst = some d := by rfl)
    (hy : Yields P ops oi v a := by first | exact Or.inl ⟨by rfl, by intro w'; go_simp; first | done | rfl⟩ | exact Or.inr ⟨by rfl, rfl⟩ | exact Or.inr ⟨by rfl, by rfl⟩)
    (ha : a.put (some d) v = a' := by simp only [Act.put, List.setIfInBounds_toArray, List.set_cons_zero, List.set_cons_succ]; rfl)
    (hs : Region.noSelect ops = true := by kernel_rfl) (hf : Region.free md ops (fl k L) i = true := by kernel_rfl) (hr : (Region.ready md ops (fl k L)).contains i = true := by kernel_rfl)
    (hQ : ∀ c a w, Q (.panic c) (a.put oi.dst v) w → Q (.panic c) a w := by exact fun _ _ _ h => h) : anyC P md ops Q C (n + 1) (fl k L) a w :=
  anyC_put i d v (fl k (i :: L)) hi hd rfl hs hf hr hQ hy hC (by rw [ha]; exact h)
theorem lH (i : Nat) (hC : C w) (h : anyC P md ops Q C n (fl k (i :: L)) a' w) (hi : ops[i]? = some oi := by rfl) (hd : oi.dst = some d := by rfl)
    (hy : YieldsIf P ops C oi v a := by first | exact Or.inl ⟨by rfl, by intro w' hw'; (try dsimp only at hw'); go_simp; first | done | rfl⟩ | exact Or.inr ⟨by rfl, rfl⟩ | exact Or.inr ⟨by rfl, by rfl⟩)
    (ha : a.put (some d) v = a' := by simp only [Act.put, List.setIfInBounds_toArray, List.set_cons_zero, List.set_cons_succ]; rfl)
    (hs : Region.noSelect ops = true := by kernel_rfl) (hf : Region.free md ops (fl k L) i = true := by kernel_rfl) (hr : (Region.ready md ops (fl k L)).contains i = true := by kernel_rfl)
    (hQ : ∀ c a w, Q (.panic c) (a.put oi.dst v) w → Q (.panic c) a w := by exact fun _ _ _ h => h) : anyC P md ops Q C (n + 1) (fl k L) a w :=
  anyC_take i d v (fl k (i :: L)) hi hd rfl hs hf hr hQ hy hC (by rw [ha]; exact h)
theorem oH (i : Nat) (h : ∀ K : Act → World → Prop, RowKit.Hid (∀ a w, C w → anyC P md ops Q C n (fl k (i :: L)) a w → K a w) → if Region.wanted oi (yielded ops a.tmps) = true then Oper.wp P oi a w K Q else K (a.put oi.dst undef) w)
    (hr : Region.ready md ops (fl k L) = [i] := by kernel_rfl) (ho : ops[i]? = some oi := by rfl) : anyC P md ops Q C (n + 1) (fl k L) a w := anyC_one i (fl k (i :: L)) hr ho rfl h
theorem dH (h : Q .normal a w) (hr : Region.ready md ops (fl k L) = [] := by kernel_rfl) : anyC P md ops Q C 0 (fl k L) a w := anyC_done hr h
end
end Go.Proofs.YtgjgbgllhbdodaaGreatDoor
