/-
  The library's sort in place, of numbers: two runs change places, in one way and in another one.
-/
import Derived.WalkKit
import Derived.Test.YtmbgomljofngnabChecked
import Derived.Test.YtmbgomljofngnabBase
import Derived.Test.YtmbgomljofngnabSrtn
namespace Go.Proofs.Ytmbgomljofngnab
open Go.RowKit
set_option linter.unusedVariables false

/-- The cells of a list. -/
def zc (z : List Int) : Nat → Value := fun j => .int .i64 (nth z j)
/-- A row holds that list, and nothing else has changed. -/
def SwP (S n : Nat) (z' : List Int) (w : World) (r : Ending) (w' : World) : Prop :=
  (∃ v, r = .returned v) ∧ w'.rowIs S 3 n (zc z') ∧ w.grownBy w' (some S)
theorem zc_put {wr : World} {S : Nat} {n : Nat} {z : List Int} (h : wr.rowIs S 3 n (zc z)) (hl : z.length = n) {i : Nat} (hi : i < n) (v : Int) : (wr.setCell ⟨S, i, none⟩ (.int .i64 v)).rowIs S 3 n (zc (z.set i v)) := by
  refine (h.set i _).congr fun j hj => ?_
  unfold zc
  rw [nth_set _ _ _ _ (by omega)]
  by_cases e : j = i
  · rw [if_pos e, if_pos e]
  · rw [if_neg e, if_neg e]
theorem zc_swap {wr : World} {S : Nat} {n : Nat} {z : List Int} (h : wr.rowIs S 3 n (zc z)) (hl : z.length = n) {i j : Nat} (hi : i < n) (hj : j < n) :
    ((wr.setCell ⟨S, i, none⟩ (.int .i64 (nth z j))).setCell ⟨S, j, none⟩ (.int .i64 (nth z i))).rowIs S 3 n (zc ((z.set i (nth z j)).set j (nth z i))) :=
  zc_put (zc_put h hl hi _) (by rw [List.length_set]; exact hl) hj _
theorem sgrown_t {a w w' : World} {row : Option Nat} (h : a.grownBy w row) (k : w.grownBy w' row) : a.grownBy w' row :=
  ⟨k.os.trans h.os, k.tape.trans h.tape, k.output.trans h.output, Nat.le_trans h.size k.size, fun i hi hr => (k.block i (Nat.lt_of_lt_of_le hi h.size) hr).trans (h.block i hi hr)⟩
theorem sgrown_set (w : World) (b i : Nat) (v : Value) : w.grownBy (w.setCell ⟨b, i, none⟩ v) (some b) :=
  ⟨rfl, rfl, rfl, by simp [World.setCell], fun k _ hk => Below.heap_setCell _ _ _ _ (fun e => hk (by simp [e]))⟩
theorem sgrown_set2 {a w : World} {b : Nat} (h : a.grownBy w (some b)) (i j : Nat) (u v : Value) : a.grownBy ((w.drew.setCell ⟨b, i, none⟩ u).setCell ⟨b, j, none⟩ v) (some b) :=
  sgrown_t (sgrown_t (sgrown_t h (w' := w.drew) ⟨rfl, rfl, rfl, Nat.le_refl _, fun _ _ _ => rfl⟩) (sgrown_set _ _ _ _)) (sgrown_set _ _ _ _)
theorem wr_sm {x : Int} (h : -9223372036854775808 ≤ x ∧ x ≤ 9223372036854775807) : IntKind.i64.wrap x = x := IntWalk.i64_in x h
set_option maxRecDepth 100000 in
set_option maxHeartbeats 4000000 in
theorem swr_any (S n sc : Nat) (f : Nat) (cs : List Value) (a b m : Nat) (z : List Int) (hl : z.length = n) (hn : n ≤ 4096) (h1 : a + m ≤ b) (h2 : b + m ≤ n) (w : World) (hrow : w.rowIs S 3 n (zc z)) :
    Calls Try.prog 88 #[.slice (some ⟨S, 0, none⟩) n sc, .int .i64 (a : Nat), .int .i64 (b : Nat), .int .i64 (m : Nat), .func (.func f) #[] cs.toArray] w (SwP S n (mvL (swF a b m) z) w) := by
  have HR : Hid (w.rowIs S 3 n (zc z)) := hrow
  have HL : Hid (z.length = n) := hl
  clear hrow hl
  go_enter Try.func88, Try.ntmps88
  go_wp2_with fail
  go_loopw [10] (fun i wr => ∃ k : Nat, k ≤ m ∧ i = .int .i64 k ∧ wr.rowIs S 3 n (zc (mvL (swF a b k) z)) ∧ w.grownBy wr (some S)) (fun i _ => m - (intOf i).toNat)
  case atStart => exact ⟨0, Nat.zero_le _, rfl, by rw [swF_zero]; exact HR.out, World.grownBy.refl _ _⟩
  case round =>
    obtain ⟨k, hk, rfl, hrow, hG⟩ := hrel
    by_cases hlt : k < m
    · have hL2 : (mvL (swF a b k) z).length = n := by rw [mvL_length]; exact HL.out
      obtain ⟨A, hA⟩ : ∃ A, A = a + k := ⟨_, rfl⟩
      obtain ⟨B, hB⟩ : ∃ B, B = b + k := ⟨_, rfl⟩
      have hAn : A < n := by omega
      have hBn : B < n := by omega
      have hAB : A ≠ B := by omega
      have HS := swF_step (z := z) (a := a) (b := b) (k := k) (by omega) (by rw [HL.out]; omega)
      rw [← hA, ← hB] at HS
      have HW := zc_swap hrow hL2 hAn hBn
      rw [HS] at HW
      have HQ : Hid (w.grownBy wr (some S)) := hG
      have ca := hrow.cell hAn
      have cb := hrow.cell hBn
      have fa := hrow.frozen A
      have fb := hrow.frozen B
      unfold zc at ca cb
      obtain ⟨xa, hxa⟩ : ∃ xa, xa = nth (mvL (swF a b k) z) A := ⟨_, rfl⟩
      obtain ⟨xb, hxb⟩ : ∃ xb, xb = nth (mvL (swF a b k) z) B := ⟨_, rfl⟩
      rw [← hxa] at ca HW
      rw [← hxb] at cb HW
      have HWW : Hid (((wr.setCell ⟨S, A, none⟩ (.int .i64 xb)).setCell ⟨S, B, none⟩ (.int .i64 xa)).rowIs S 3 n (zc (mvL (swF a b (k + 1)) z))) := HW
      have w1 : IntKind.i64.wrap ((a : Int) + (k : Int)) = (A : Int) := by rw [wr_sm (by omega)]; omega
      have w2 : IntKind.i64.wrap ((b : Int) + (k : Int)) = (B : Int) := by rw [wr_sm (by omega)]; omega
      have cb2 : (wr.drew.setCell ⟨S, A, none⟩ (.int .i64 xb)).cell? ⟨S, B, none⟩ = some (.int .i64 xb) := (World.cell?_setCell_other _ _ _ _ (by intro e; simp only [Addr.mk.injEq] at e; omega)).trans cb
      have fb2 : (wr.drew.setCell ⟨S, A, none⟩ (.int .i64 xb)).frozen? ⟨S, B, none⟩ = false := by rw [World.frozen?_setCell]; exact fb
      clear hrow hG HW HS hxa hxb hL2 hA hB
      go_wp2_with fail
      refine anyT_begin 20 (fun w' => w'.cell? ⟨S, A, none⟩ = some (.int .i64 xa) ∧ w'.cell? ⟨S, B, none⟩ = some (.int .i64 xb)) 24 #[false, false, false, false, false, false, false, false, false, false, false, false, false, false, false, false, false, false, false, false, false, false, false, false] (by kernel_rfl) rfl rfl ?_
      refine anyT_put 0 16 ?rv10 #[true, false, false, false, false, false, false, false, false, false, false, false, false, false, false, false, false, false, false, false, false, false, false, false] rfl rfl rfl (by kernel_rfl) (by kernel_rfl) (by kernel_rfl) (fun _ _ _ h => h) (by decide) ?ry10 (fun _ => ⟨ca, cb⟩) ?rm10
      case ry10 => first | exact Or.inl ⟨by rfl, by intro w'; go_simp; first | done | rfl⟩
      case rm10 =>
      simp only [Act.put, List.setIfInBounds_toArray, List.set_cons_zero, List.set_cons_succ]
      refine anyT_put 1 17 ?rv11 #[true, true, false, false, false, false, false, false, false, false, false, false, false, false, false, false, false, false, false, false, false, false, false, false] rfl rfl rfl (by kernel_rfl) (by kernel_rfl) (by kernel_rfl) (fun _ _ _ h => h) (by decide) ?ry11 (fun _ => ⟨ca, cb⟩) ?rm11
      case ry11 => first | exact Or.inl ⟨by rfl, by intro w'; go_simp; first | done | rfl⟩
      case rm11 =>
      simp only [Act.put, List.setIfInBounds_toArray, List.set_cons_zero, List.set_cons_succ]
      refine anyT_put 2 18 ?rv12 #[true, true, true, false, false, false, false, false, false, false, false, false, false, false, false, false, false, false, false, false, false, false, false, false] rfl rfl rfl (by kernel_rfl) (by kernel_rfl) (by kernel_rfl) (fun _ _ _ h => h) (by decide) ?ry12 (fun _ => ⟨ca, cb⟩) ?rm12
      case ry12 => first | exact Or.inl ⟨by rfl, by intro w'; go_simp; first | done | rfl⟩
      case rm12 =>
      simp only [Act.put, List.setIfInBounds_toArray, List.set_cons_zero, List.set_cons_succ]
      refine anyT_put 3 19 ?rv13 #[true, true, true, true, false, false, false, false, false, false, false, false, false, false, false, false, false, false, false, false, false, false, false, false] rfl rfl rfl (by kernel_rfl) (by kernel_rfl) (by kernel_rfl) (fun _ _ _ h => h) (by decide) ?ry13 (fun _ => ⟨ca, cb⟩) ?rm13
      case ry13 => first | exact Or.inl ⟨by rfl, by intro w'; go_simp; first | done | rfl⟩
      case rm13 =>
      simp only [Act.put, List.setIfInBounds_toArray, List.set_cons_zero, List.set_cons_succ]
      refine anyT_put 4 20 ?rv14 #[true, true, true, true, true, false, false, false, false, false, false, false, false, false, false, false, false, false, false, false, false, false, false, false] rfl rfl rfl (by kernel_rfl) (by kernel_rfl) (by kernel_rfl) (fun _ _ _ h => h) (by decide) ?ry14 (fun _ => ⟨ca, cb⟩) ?rm14
      case ry14 => first | exact Or.inl ⟨by rfl, by intro w'; go_simp; first | done | rfl⟩
      case rm14 =>
      simp only [Act.put, List.setIfInBounds_toArray, List.set_cons_zero, List.set_cons_succ]
      refine anyT_put 5 21 ?rv15 #[true, true, true, true, true, true, false, false, false, false, false, false, false, false, false, false, false, false, false, false, false, false, false, false] rfl rfl rfl (by kernel_rfl) (by kernel_rfl) (by kernel_rfl) (fun _ _ _ h => h) (by decide) ?ry15 (fun _ => ⟨ca, cb⟩) ?rm15
      case ry15 => first | exact Or.inl ⟨by rfl, by intro w'; go_simp; first | done | rfl⟩
      case rm15 =>
      simp only [Act.put, List.setIfInBounds_toArray, List.set_cons_zero, List.set_cons_succ]
      refine anyT_put 6 22 ?rv16 #[true, true, true, true, true, true, true, false, false, false, false, false, false, false, false, false, false, false, false, false, false, false, false, false] rfl rfl rfl (by kernel_rfl) (by kernel_rfl) (by kernel_rfl) (fun _ _ _ h => h) (by decide) ?ry16 (fun _ => ⟨ca, cb⟩) ?rm16
      case ry16 => first | exact Or.inl ⟨by rfl, by intro w'; go_simp; first | done | rfl⟩
      case rm16 =>
      simp only [Act.put, List.setIfInBounds_toArray, List.set_cons_zero, List.set_cons_succ]
      refine anyT_put 7 23 ?rv17 #[true, true, true, true, true, true, true, true, false, false, false, false, false, false, false, false, false, false, false, false, false, false, false, false] rfl rfl rfl (by kernel_rfl) (by kernel_rfl) (by kernel_rfl) (fun _ _ _ h => h) (by decide) ?ry17 (fun _ => ⟨ca, cb⟩) ?rm17
      case ry17 => first | exact Or.inl ⟨by rfl, by intro w'; go_simp; first | done | rfl⟩
      case rm17 =>
      simp only [Act.put, List.setIfInBounds_toArray, List.set_cons_zero, List.set_cons_succ]
      refine anyT_put 8 24 ?rv18 #[true, true, true, true, true, true, true, true, true, false, false, false, false, false, false, false, false, false, false, false, false, false, false, false] rfl rfl rfl (by kernel_rfl) (by kernel_rfl) (by kernel_rfl) (fun _ _ _ h => h) (by decide) ?ry18 (fun _ => ⟨ca, cb⟩) ?rm18
      case ry18 => first | exact Or.inl ⟨by rfl, by intro w'; go_simp; first | done | rfl⟩
      case rm18 =>
      simp only [Act.put, List.setIfInBounds_toArray, List.set_cons_zero, List.set_cons_succ]
      refine anyT_put 9 25 ?rv19 #[true, true, true, true, true, true, true, true, true, true, false, false, false, false, false, false, false, false, false, false, false, false, false, false] rfl rfl rfl (by kernel_rfl) (by kernel_rfl) (by kernel_rfl) (fun _ _ _ h => h) (by decide) ?ry19 (fun _ => ⟨ca, cb⟩) ?rm19
      case ry19 => first | exact Or.inl ⟨by rfl, by intro w'; go_simp; first | done | rfl⟩
      case rm19 =>
      simp only [Act.put, List.setIfInBounds_toArray, List.set_cons_zero, List.set_cons_succ]
      refine anyT_put 10 26 ?rv20 #[true, true, true, true, true, true, true, true, true, true, true, false, false, false, false, false, false, false, false, false, false, false, false, false] rfl rfl rfl (by kernel_rfl) (by kernel_rfl) (by kernel_rfl) (fun _ _ _ h => h) (by decide) ?ry20 (fun _ => ⟨ca, cb⟩) ?rm20
      case ry20 => first | exact Or.inl ⟨by rfl, by intro w'; go_simp; first | done | rfl⟩
      case rm20 =>
      simp only [Act.put, List.setIfInBounds_toArray, List.set_cons_zero, List.set_cons_succ]
      refine anyT_put 11 27 ?rv21 #[true, true, true, true, true, true, true, true, true, true, true, true, false, false, false, false, false, false, false, false, false, false, false, false] rfl rfl rfl (by kernel_rfl) (by kernel_rfl) (by kernel_rfl) (fun _ _ _ h => h) (by decide) ?ry21 (fun _ => ⟨ca, cb⟩) ?rm21
      case ry21 => first | exact Or.inl ⟨by rfl, by intro w'; go_simp; first | done | rfl⟩
      case rm21 =>
      simp only [Act.put, List.setIfInBounds_toArray, List.set_cons_zero, List.set_cons_succ]
      refine anyT_put 12 28 ?rv22 #[true, true, true, true, true, true, true, true, true, true, true, true, true, false, false, false, false, false, false, false, false, false, false, false] rfl rfl rfl (by kernel_rfl) (by kernel_rfl) (by kernel_rfl) (fun _ _ _ h => h) (by decide) ?ry22 (fun _ => ⟨ca, cb⟩) ?rm22
      case ry22 => first | exact Or.inl ⟨by rfl, by intro w'; go_simp; first | done | rfl⟩
      case rm22 =>
      simp only [Act.put, List.setIfInBounds_toArray, List.set_cons_zero, List.set_cons_succ]
      refine anyT_take 13 29 ?rv23 #[true, true, true, true, true, true, true, true, true, true, true, true, true, true, false, false, false, false, false, false, false, false, false, false] rfl rfl rfl (by kernel_rfl) (by kernel_rfl) (by kernel_rfl) (fun _ _ _ h => h) (by kernel_rfl) (by decide) (by kernel_rfl) ?ry23 (⟨ca, cb⟩) ?rm23
      case ry23 => first | exact Or.inl ⟨by rfl, by intro w' hw'; (try dsimp only at hw'); go_simp; first | done | rfl⟩
      case rm23 =>
      simp only [Act.put, List.setIfInBounds_toArray, List.set_cons_zero, List.set_cons_succ]
      refine anyT_put 14 30 ?rv24 #[true, true, true, true, true, true, true, true, true, true, true, true, true, true, true, false, false, false, false, false, false, false, false, false] rfl rfl rfl (by kernel_rfl) (by kernel_rfl) (by kernel_rfl) (fun _ _ _ h => h) (by decide) ?ry24 (fun _ => ⟨ca, cb⟩) ?rm24
      case ry24 => first | exact Or.inl ⟨by rfl, by intro w'; go_simp; first | done | rfl⟩
      case rm24 =>
      simp only [Act.put, List.setIfInBounds_toArray, List.set_cons_zero, List.set_cons_succ]
      refine anyT_put 15 31 ?rv25 #[true, true, true, true, true, true, true, true, true, true, true, true, true, true, true, true, false, false, false, false, false, false, false, false] rfl rfl rfl (by kernel_rfl) (by kernel_rfl) (by kernel_rfl) (fun _ _ _ h => h) (by decide) ?ry25 (fun _ => ⟨ca, cb⟩) ?rm25
      case ry25 => first | exact Or.inl ⟨by rfl, by intro w'; go_simp; first | done | rfl⟩
      case rm25 =>
      simp only [Act.put, List.setIfInBounds_toArray, List.set_cons_zero, List.set_cons_succ]
      refine anyT_put 16 32 ?rv26 #[true, true, true, true, true, true, true, true, true, true, true, true, true, true, true, true, true, false, false, false, false, false, false, false] rfl rfl rfl (by kernel_rfl) (by kernel_rfl) (by kernel_rfl) (fun _ _ _ h => h) (by decide) ?ry26 (fun _ => ⟨ca, cb⟩) ?rm26
      case ry26 => first | exact Or.inl ⟨by rfl, by intro w'; go_simp; first | done | rfl⟩
      case rm26 =>
      simp only [Act.put, List.setIfInBounds_toArray, List.set_cons_zero, List.set_cons_succ]
      refine anyT_put 17 33 ?rv27 #[true, true, true, true, true, true, true, true, true, true, true, true, true, true, true, true, true, true, false, false, false, false, false, false] rfl rfl rfl (by kernel_rfl) (by kernel_rfl) (by kernel_rfl) (fun _ _ _ h => h) (by decide) ?ry27 (fun _ => ⟨ca, cb⟩) ?rm27
      case ry27 => first | exact Or.inl ⟨by rfl, by intro w'; go_simp; first | done | rfl⟩
      case rm27 =>
      simp only [Act.put, List.setIfInBounds_toArray, List.set_cons_zero, List.set_cons_succ]
      refine anyT_put 18 34 ?rv28 #[true, true, true, true, true, true, true, true, true, true, true, true, true, true, true, true, true, true, true, false, false, false, false, false] rfl rfl rfl (by kernel_rfl) (by kernel_rfl) (by kernel_rfl) (fun _ _ _ h => h) (by decide) ?ry28 (fun _ => ⟨ca, cb⟩) ?rm28
      case ry28 => first | exact Or.inl ⟨by rfl, by intro w'; go_simp; first | done | rfl⟩
      case rm28 =>
      simp only [Act.put, List.setIfInBounds_toArray, List.set_cons_zero, List.set_cons_succ]
      refine anyT_take 19 35 ?rv29 #[true, true, true, true, true, true, true, true, true, true, true, true, true, true, true, true, true, true, true, true, false, false, false, false] rfl rfl rfl (by kernel_rfl) (by kernel_rfl) (by kernel_rfl) (fun _ _ _ h => h) (by kernel_rfl) (by decide) (by kernel_rfl) ?ry29 (⟨ca, cb⟩) ?rm29
      case ry29 => first | exact Or.inl ⟨by rfl, by intro w' hw'; (try dsimp only at hw'); go_simp; first | done | rfl⟩
      case rm29 =>
      simp only [Act.put, List.setIfInBounds_toArray, List.set_cons_zero, List.set_cons_succ]
      refine anyT_one 20 #[true, true, true, true, true, true, true, true, true, true, true, true, true, true, true, true, true, true, true, true, true, false, false, false] (by kernel_rfl) rfl rfl (fun K hK => ?_)
      go_simp
      refine hK.out _ _ (fun h => absurd h (by decide)) ?_
      clear hK K
      refine anyT_one 21 #[true, true, true, true, true, true, true, true, true, true, true, true, true, true, true, true, true, true, true, true, true, true, false, false] (by kernel_rfl) rfl rfl (fun K hK => ?_)
      go_simp
      refine hK.out _ _ (fun h => absurd h (by decide)) ?_
      clear hK K
      refine anyT_one 22 #[true, true, true, true, true, true, true, true, true, true, true, true, true, true, true, true, true, true, true, true, true, true, true, false] (by kernel_rfl) rfl rfl (fun K hK => ?_)
      go_simp
      refine hK.out _ _ (fun h => absurd h (by decide)) ?_
      clear hK K
      refine anyT_one 23 #[true, true, true, true, true, true, true, true, true, true, true, true, true, true, true, true, true, true, true, true, true, true, true, true] (by kernel_rfl) rfl rfl (fun K hK => ?_)
      go_simp
      refine hK.out _ _ (fun h => absurd h (by decide)) ?_
      clear hK K
      refine anyT_done (by kernel_rfl) ?_
      go_wp2_with fail
      exact ⟨⟨k + 1, by omega, by go_num, HWW.out, sgrown_set2 HQ.out _ _ _ _⟩, by simp [intOf]; omega⟩
    · obtain rfl : k = m := by omega
      have HQ : Hid (wr.rowIs S 3 n (zc (mvL (swF a b k) z)) ∧ w.grownBy wr (some S)) := ⟨hrow, hG⟩
      clear hrow hG
      go_wp2_with fail
      go_end0
      exact ⟨⟨_, rfl⟩, HQ.out.1, HQ.out.2⟩
end Go.Proofs.Ytmbgomljofngnab
