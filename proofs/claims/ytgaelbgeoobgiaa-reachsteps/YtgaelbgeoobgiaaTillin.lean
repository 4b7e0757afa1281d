/-
  A region that draws its order, in a round of a loop over a function: where no operation calls, it goes as outside.
-/
import Derived.OrdersIn
import Derived.Test.YtgaelbgeoobgiaaBase
namespace Go.Proofs.Ytgaelbgeoobgiaa
set_option linter.unusedVariables false

/-- An operation that calls nothing. -/
def plainOp (o : Oper) : Bool := match o.op with
  | .move _ | .assign _ | .load .. | .store .. | .binOp .. | .unOp .. | .convert .. | .fieldAddr .. | .field .. | .indexAddr .. | .index .. | .extract .. | .makeInterface .. | .build .. | .alloc .. | .box .. | .slice .. | .makeSlice .. => true
  | _ => false
/-- Only where it ends as it should. -/
def onN (Q : Exit → Act → World → Prop) : Exit → Act → World → Prop
  | .normal, b, w => Q .normal b w
  | _, _, _ => False
def plainR : Result Next → Prop
  | .ok (.value _) _ => True
  | .ok .skip _ => True
  | .halt _ _ => True
  | _ => False
theorem plain_v (s : Sem Value) (P : Program) (w : World) : plainR ((do pure (Next.value (← s)) : Sem Next).run P w) := by
  rw [Sem.run_bind]
  cases s.run P w <;> simp [Result.andThen, plainR]
theorem plain_u (s : Sem Unit) (P : Program) (w : World) : plainR ((do s; pure Next.skip : Sem Next).run P w) := by
  rw [Sem.run_bind]
  cases s.run P w <;> simp [Result.andThen, plainR]
theorem plain_run {o : Oper} (h : plainOp o = true) (ρ : Operand → Value) (P : Program) (w : World) : plainR ((execOp ρ o).run P w) := by
  unfold plainOp at h
  unfold execOp
  cases ho : o.op <;> simp only [ho] at h ⊢ <;> first | (cases h; done) | exact plain_v _ P w | exact plain_u _ P w | simp [plainR]
section
variable {F : Fence} {m : Nat} {P : Program} {ops : Array Oper} {Q : Exit → Act → World → Prop} {md : Region.Mode}
theorem upon_in {o : Oper} {a : Act} {K : Act → World → Prop} {r : Result Next} (hr : plainR r) (h : o.upon P a K (onN Q) r) : o.uponIn F m P a K Q r := by
  cases r with
  | ok x w' => cases x <;> first | exact h | exact hr.elim
  | halt x w' => cases x <;> exact h.elim
theorem plain_about {o : Oper} (h : plainOp o = true) (w : World) (ρ : Operand → Value) : o.about P w ρ = none := by
  unfold plainOp at h
  unfold Oper.about
  cases ho : o.op <;> simp only [ho] at h ⊢
  cases h
theorem plain_sem {o : Oper} (h : plainOp o = true) (ro : Option Nat) (ρ : Operand → Value) : o.semAt ro ρ = execOp ρ o :=
  Oper.semAt_eq ro ρ o fun c hc => by unfold plainOp at h; rw [hc] at h; cases h
theorem wpOp_in {i : Nat} {K : Act → World → Prop} {a : Act} {w : World} (hpl : ∀ o, ops[i]? = some o → plainOp o = true) (h : wpOp P ops (onN Q) i K a w) : wpOpIn F m P ops Q i K a w := by
  unfold wpOp at h
  unfold wpOpIn
  cases ho : ops[i]? with
  | none => simp only [ho] at h ⊢; exact h
  | some o =>
    have hp := hpl o ho
    simp only [ho] at h ⊢
    have hab : ∀ f, o.about P w a.eval = some f → F.fn f := fun f hf => by rw [plain_about hp] at hf; cases hf
    by_cases hw : Region.wanted o (yielded ops a.tmps) = true
    · rw [if_pos hw] at h ⊢
      rcases h with h | ⟨_, h⟩
      · refine ⟨hab, ?_⟩
        rw [plain_sem hp]
        exact upon_in (plain_run hp _ _ _) h
      · obtain ⟨_, _, h⟩ := h
        exact h.elim
    · rw [if_neg hw] at h ⊢
      exact ⟨hab, h⟩
theorem wpAny_in (hpl : ops.all plainOp = true) : ∀ (n : Nat) (l : Array Bool) (a : Act) (w : World), wpAny P md ops (onN Q) n l a w → wpAnyIn F m P md ops Q n l a w
  | 0, l, a, w, h => h
  | n + 1, l, a, w, h => ⟨h.1, fun i hi => wpOpIn_mono (fun a w k => wpAny_in hpl n _ a w k) (wpOp_in (fun o ho => by
      obtain ⟨hlt, he⟩ := Array.getElem?_eq_some_iff.1 ho
      rw [← he]
      exact Array.all_eq_true.1 hpl i hlt) (h.2 i hi))⟩
theorem anyT_beginIn (s : Nat) (C : World → Prop) (n : Nat) (l : Array Bool) {id : Nat} {a : Act} {w : World} (hm : P.follows .mixedOrders = true) (hn : ops.size = n) (hl : Array.replicate ops.size false = l) (hpl : ops.all plainOp = true)
    (h : anyT P .any ops (onN Q) s C n l a w.drew) : (Code.region id ops true).wpIn F m P Q a w :=
  wpIn_region_any hm (wpAny_in hpl _ _ _ _ (by rw [hl, hn]; exact h.plain))
end
end Go.Proofs.Ytgaelbgeoobgiaa
