/-
  A map of the first places of cells: plain mathematics, and the word for a map that the program has made.
-/
import Derived.Maps.OwnSet
import Derived.Test.YteieliajdfbipaaSekm
namespace Go.Proofs.Yteieliajdfbipaa
open Go.RowKit
set_option linter.unusedVariables false

theorem fdN_app_in {v : Int} : ∀ {l r : List Int}, v ∈ l → fdN true true v (l ++ r) = fdN true true v l
  | [], _, h => by simp at h
  | x :: l, r, h => by
    show (if true = true ∧ x = v then 0 else fdN true true v (l ++ r) + 1) = (if true = true ∧ x = v then 0 else fdN true true v l + 1)
    by_cases e : x = v
    · rw [if_pos ⟨rfl, e⟩, if_pos ⟨rfl, e⟩]
    · rw [if_neg (fun q => e q.2), if_neg (fun q => e q.2), fdN_app_in]
      rcases List.mem_cons.1 h with h | h
      · exact absurd h.symm e
      · exact h
theorem fdN_app_new {v : Int} : ∀ {l : List Int}, v ∉ l → fdN true true v (l ++ [v]) = l.length
  | [], _ => by simp [fdN]
  | x :: l, h => by
    show (if true = true ∧ x = v then 0 else fdN true true v (l ++ [v]) + 1) = _
    have h1 : x ≠ v := fun e => h (by rw [e]; exact List.mem_cons_self)
    rw [if_neg (fun q => h1 q.2), fdN_app_new (fun q => h (List.mem_cons_of_mem _ q)), List.length_cons]
/-- The datum has the first places of these cells. -/
def FirstD (D : DataW Unit) (zs : List Int) : Prop :=
  ∀ v : Int, Maps.has D (.int .i64 v) = decide (v ∈ zs) ∧ (v ∈ zs → ∀ z, D.atKey (.int .i64 v) z = .lit (.int .i64 (fdN true true v zs)))
theorem firstD_nil : FirstD (.map []) [] := fun v => ⟨by simp [Maps.has], fun h => by simp at h⟩
theorem firstD_seen {D : DataW Unit} {zs : List Int} {k : Nat} (h : FirstD D (zs.take k)) (hk : k < zs.length) (hm : nth zs k ∈ zs.take k) : FirstD D (zs.take (k + 1)) := fun v => by
  rw [List.take_succ_eq_append_getElem hk, ← nth_get zs k hk]
  have hv : v ∈ zs.take k ++ [nth zs k] ↔ v ∈ zs.take k := by
    rw [List.mem_append, List.mem_singleton]
    exact ⟨fun q => q.elim id (fun e => by rw [e]; exact hm), .inl⟩
  refine ⟨by rw [(h v).1]; exact decide_eq_decide.2 hv.symm, fun q z => ?_⟩
  rw [(h v).2 (hv.1 q) z, fdN_app_in (hv.1 q)]
theorem lit_ne {a b : Int} (h : a ≠ b) : (Lit.int .i64 a) ≠ .int .i64 b := fun e => h (by injection e)
theorem firstD_new {D : DataW Unit} {zs : List Int} {k : Nat} (hD : Maps.IsMap D) (h : FirstD D (zs.take k)) (hk : k < zs.length) (hm : nth zs k ∉ zs.take k) (hkey : WideAt.IsKeyLit (.int .i64 (nth zs k))) : FirstD (D.put (.int .i64 (nth zs k)) (.lit (.int .i64 k))) (zs.take (k + 1)) := fun v => by
  rw [List.take_succ_eq_append_getElem hk, ← nth_get zs k hk]
  by_cases e : v = nth zs k
  · rw [e]
    refine ⟨by rw [Maps.has_put_same hD hkey]; simp, fun _ z => ?_⟩
    rw [Maps.atKey_put_same hD hkey, fdN_app_new hm, List.length_take_of_le (by omega)]
  · have hv : v ∈ zs.take k ++ [nth zs k] ↔ v ∈ zs.take k := by
      rw [List.mem_append, List.mem_singleton]
      exact ⟨fun q => q.elim id (fun e' => absurd e' e), .inl⟩
    refine ⟨by rw [Maps.has_put_other (lit_ne e), (h v).1]; exact decide_eq_decide.2 hv.symm, fun q z => ?_⟩
    rw [Maps.atKey_put_other (lit_ne e), (h v).2 (hv.1 q) z, fdN_app_in (hv.1 q)]
/-- The datum tells where cells of a kind are, in cells of a kind. -/
def FndD (D : DataW Unit) (c ch : Bool) (dz : List Int) : Prop :=
  ∀ v : Int, Maps.has D (.int .i64 v) = hsB c dz ch v ∧ (hsB c dz ch v = true → ∀ z, D.atKey (.int .i64 v) z = .lit (.int .i64 (fdN c ch v dz)))
theorem fdN_kind {c : Bool} {v : Int} : ∀ dz : List Int, fdN c c v dz = fdN true true v dz
  | [] => rfl
  | x :: r => by simp only [fdN]; rw [fdN_kind r]
theorem fndD_of {D : DataW Unit} {c ch : Bool} {dz : List Int} (e : c = ch) (h : FirstD D dz) : FndD D c ch dz := fun v => by
  subst e
  have e1 : hsB c dz c v = decide (v ∈ dz) := by unfold hsB; simp
  refine ⟨by rw [(h v).1, e1], fun q z => ?_⟩
  rw [(h v).2 (hsB_iff.1 q).2 z, fdN_kind (c := c)]
theorem fndD_no {D : DataW Unit} {c ch : Bool} {dz : List Int} (e : c ≠ ch) (h : FirstD D []) : FndD D c ch dz := fun v => by
  have e1 : hsB c dz ch v = false := hsB_no.2 fun q => e q.1
  refine ⟨by rw [(h v).1, e1]; simp, fun q => by rw [e1] at q; cases q⟩
/-- What a look tells besides. -/
def fdV (c ch : Bool) (v : Int) (dz : List Int) : Int := if hsB c dz ch v = true then (fdN c ch v dz : Int) else 0
theorem fdV_of {D : DataW Unit} {c ch : Bool} {dz : List Int} {v a : Int} (h : FndD D c ch dz) (ha : D.atKey (.int .i64 v) (.lit (.int .i64 0)) = .lit (.int .i64 a)) : a = fdV c ch v dz := by
  unfold fdV
  by_cases q : hsB c dz ch v = true
  · rw [if_pos q]
    rw [(h v).2 q] at ha
    injection ha with ha
    injection ha with _ ha
    exact ha.symm
  · have q' : hsB c dz ch v = false := by simpa using q
    rw [if_neg q]
    rw [Maps.atKey_of_not_has (by rw [(h v).1, q'])] at ha
    injection ha with ha
    injection ha with _ ha
    exact ha.symm
theorem zero8 (w : World) : (zeroValue 3).run Try.prog w = .ok (.int .i64 0) w := by kernel_rfl
theorem law8 : Maps.Keyed Try.prog 3 := Maps.int_keyed Try.underlying3
theorem wf8 {x : Int} (h : In64 x) : (Lit.int .i64 x).wf = true := WalkArith.wf_i64 (by unfold In64 at h; omega)
theorem key8 {x : Int} (h : In64 x) : keyOf Try.prog 3 (.int .i64 x) = some (.int .i64 x) := Maps.keyOf_int_mk Try.underlying3 (wf8 h)
/-- A box at p leads to a map that tells where cells are; both lie from lo on. -/
def Finds (lo : Nat) (W : World) (p : Nat) (c ch : Bool) (dz : List Int) : Prop :=
  lo ≤ p ∧ p < W.heap.size ∧ ∃ (B n : Nat) (D : DataW Unit), lo ≤ B ∧ W.cell? ⟨p, 0, none⟩ = some (.map (some B)) ∧ W.ownsMap Try.prog 3 (plainElem Try.prog 3) B n D ∧ FndD D c ch dz
section
variable {lo p : Nat} {W W' : World} {c ch : Bool} {dz : List Int}
theorem owns_go {B n : Nat} {D : DataW Unit} (h : W.ownsMap Try.prog 3 (plainElem Try.prog 3) B n D) (hB : Below W.heap.size W W') : W'.ownsMap Try.prog 3 (plainElem Try.prog 3) B n D := by
  have hl := h.lt
  obtain ⟨es, clock, hb, F, hs, hD⟩ := h
  exact ⟨es, clock, (hB.block B hl).trans hb, F, hs, hD⟩
theorem Finds.go (h : Finds lo W p c ch dz) (hB : Below W.heap.size W W') : Finds lo W' p c ch dz := by
  obtain ⟨h1, h2, B, n, D, h3, h4, h5, h6⟩ := h
  exact ⟨h1, Nat.lt_of_lt_of_le h2 hB.size, B, n, D, h3, (hB.cell (p := ⟨p, 0, none⟩) h2).trans h4, owns_go h5 hB, h6⟩
theorem Finds.low {lo' : Nat} (hl : lo' ≤ lo) (h : Finds lo W p c ch dz) : Finds lo' W p c ch dz := by
  obtain ⟨h1, h2, B, n, D, h3, h4⟩ := h
  exact ⟨by omega, h2, B, n, D, by omega, h4⟩
theorem Finds.set {a : Addr} (ha : a.block < lo) (u : Value) (h : Finds lo W p c ch dz) : Finds lo (W.setCell a u) p c ch dz := by
  obtain ⟨h1, h2, B, n, D, h3, h4, h5, h6⟩ := h
  exact ⟨h1, by simpa [World.setCell] using h2, B, n, D, h3, (World.cell?_of_block (Below.heap_setCell W a u p (by omega))).trans h4, h5.setCell (by omega) u, h6⟩
end
end Go.Proofs.Yteieliajdfbipaa
