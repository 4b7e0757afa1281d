/-
  What the program tells of two numbers' greatest common divisor.
-/
import Derived.Test.YteiohkajbokekaaTill
import Derived.Test.YteiohkajbokekaaLess
namespace Go.Proofs.Yteiohkajbokekaa
open Go.RowKit
set_option linter.unusedVariables false

theorem results_tmp4 {fn : Func} {t u v x : Tmp} (h : fn.results = #[.tmp t, .tmp u, .tmp v, .tmp x]) (tmps : Array Value) (P : Program) (w : World) :
    (results fn tmps).run P w = .ok (.tuple #[tmps.getD t undef, tmps.getD u undef, tmps.getD v undef, tmps.getD x undef]) w := by
  simp [results, h]
/-- The number that a row begins with. -/
def atRow (n : Nat) (w : World) : Int := match w.cell? ⟨n, 0, none⟩ with
  | some (.int _ v) => v
  | _ => 0
theorem Row3.at {w : World} {b : Nat} {x y z : Int} (h : Row3 w b x y z) : atRow b w = x := by unfold atRow; rw [h.c0]
theorem less_rows (n : Nat) (r0 x0 y0 r1 x1 y1 q : Int) (w : World) (h0 : Row3 w n r0 x0 y0) (h1 : Row3 w (n + 1) r1 x1 y1) :
    Calls Try.prog 5 #[.agg #[.int .i64 r0, .int .i64 x0, .int .i64 y0], .int .i64 q, .agg #[.int .i64 r1, .int .i64 x1, .int .i64 y1]] w fun e w' => e = .returned (.agg #[.int .i64 (ls q r0 r1), .int .i64 (ls q x0 x1), .int .i64 (ls q y0 y1)]) ∧
      w'.cell? ⟨n, 0, none⟩ = some (.int .i64 r0) ∧ w'.cell? ⟨n, 1, none⟩ = some (.int .i64 x0) ∧ w'.cell? ⟨n, 2, none⟩ = some (.int .i64 y0) ∧
      w'.cell? ⟨n + 1, 0, none⟩ = some (.int .i64 r1) ∧ w'.cell? ⟨n + 1, 1, none⟩ = some (.int .i64 x1) ∧ w'.cell? ⟨n + 1, 2, none⟩ = some (.int .i64 y1) ∧
      w'.frozen? ⟨n, 0, none⟩ = false ∧ w'.frozen? ⟨n, 1, none⟩ = false ∧ w'.frozen? ⟨n, 2, none⟩ = false ∧ w'.frozen? ⟨n + 1, 0, none⟩ = false ∧ w'.frozen? ⟨n + 1, 1, none⟩ = false ∧ w'.frozen? ⟨n + 1, 2, none⟩ = false ∧
      Row3 w' n r0 x0 y0 ∧ Row3 w' (n + 1) r1 x1 y1 ∧ Below n w w' := by
  refine (less_any r0 x0 y0 q r1 x1 y1 w).mono ?_
  rintro e w' ⟨rfl, hB⟩
  have k0 := h0.bel hB h0.lt
  have k1 := h1.bel hB h1.lt
  exact ⟨rfl, k0.c0, k0.c1, k0.c2, k1.c0, k1.c1, k1.c2, k0.fr 0, k0.fr 1, k0.fr 2, k1.fr 0, k1.fr 1, k1.fr 2, k0, k1, hB.mono (Nat.le_of_lt h0.lt)⟩
theorem set_rows {w w1 : World} {n : Nat} {r0 x0 y0 r1 x1 y1 : Int} (k0 : Row3 w1 n r0 x0 y0) (k1 : Row3 w1 (n + 1) r1 x1 y1) (hB : Below n w w1) (A B C D E F : Int) :
    Row3 ((((((w1.setCell ⟨n, 0, none⟩ (.int .i64 A)).setCell ⟨n, 1, none⟩ (.int .i64 B)).setCell ⟨n, 2, none⟩ (.int .i64 C)).setCell ⟨n + 1, 0, none⟩ (.int .i64 D)).setCell ⟨n + 1, 1, none⟩ (.int .i64 E)).setCell ⟨n + 1, 2, none⟩ (.int .i64 F)) n A B C ∧
    Row3 ((((((w1.setCell ⟨n, 0, none⟩ (.int .i64 A)).setCell ⟨n, 1, none⟩ (.int .i64 B)).setCell ⟨n, 2, none⟩ (.int .i64 C)).setCell ⟨n + 1, 0, none⟩ (.int .i64 D)).setCell ⟨n + 1, 1, none⟩ (.int .i64 E)).setCell ⟨n + 1, 2, none⟩ (.int .i64 F)) (n + 1) D E F ∧
    Below n w ((((((w1.setCell ⟨n, 0, none⟩ (.int .i64 A)).setCell ⟨n, 1, none⟩ (.int .i64 B)).setCell ⟨n, 2, none⟩ (.int .i64 C)).setCell ⟨n + 1, 0, none⟩ (.int .i64 D)).setCell ⟨n + 1, 1, none⟩ (.int .i64 E)).setCell ⟨n + 1, 2, none⟩ (.int .i64 F)) := by
  have e : ∀ i : Nat, n ≠ (⟨n + 1, i, none⟩ : Addr).block := fun i => by show n ≠ n + 1; omega
  have e' : ∀ i : Nat, n + 1 ≠ (⟨n, i, none⟩ : Addr).block := fun i => by show n + 1 ≠ n; omega
  have g : ∀ i : Nat, n ≤ (⟨n, i, none⟩ : Addr).block := fun i => Nat.le_refl _
  have g' : ∀ i : Nat, n ≤ (⟨n + 1, i, none⟩ : Addr).block := fun i => Nat.le_succ _
  exact ⟨(((((k0.s0 A).s1 B).s2 C).ot (e 0) _).ot (e 1) _).ot (e 2) _, ((((((k1.ot (e' 0) _).ot (e' 1) _).ot (e' 2) _).s0 D).s1 E).s2 F),
    (((((hB.setCell (g 0) _).setCell (g 1) _).setCell (g 2) _).setCell (g' 0) _).setCell (g' 1) _).setCell (g' 2) _⟩
theorem ret4 {a b c a' b' c' : Int} (h1 : a = a') (h2 : b = b') (h3 : c = c') : Ending.returned (.tuple #[.int .i64 a, .int .i64 b, .int .i64 c, .nilIface]) = .returned (.tuple #[.int .i64 a', .int .i64 b', .int .i64 c', .nilIface]) := by rw [h1, h2, h3]
set_option maxRecDepth 100000 in
set_option maxHeartbeats 1000000 in
theorem bez_ok (a b : Int) (ha : In63 a) (hb : In63 b) (w : World) : Calls Try.prog 4 #[.int .i64 a, .int .i64 b] w fun e w' => e = .returned (.tuple #[.int .i64 (bz1 a b), .int .i64 (bz2 a b), .int .i64 (bz3 a b), .nilIface]) ∧ Below w.heap.size w w' := by
  have t1 : (a == -9223372036854775808) = false := by unfold In63 at ha; simp; omega
  have t2 : (b == -9223372036854775808) = false := by unfold In63 at hb; simp; omega
  have HS : Hid (Bz a b a 1 0 b 0 1) := Bz.start ha hb
  clear ha hb
  go_enter Try.func4, Try.ntmps4
  go_wp2_with fail
  go_loopw [] (fun wr => ∃ r0 x0 y0 r1 x1 y1 : Int, Row3 wr w.heap.size r0 x0 y0 ∧ Row3 wr (w.heap.size + 1) r1 x1 y1 ∧ Hid (Bz a b r0 x0 y0 r1 x1 y1) ∧ Below w.heap.size w wr) (fun wr => (atRow (w.heap.size + 1) wr).natAbs)
  case atStart =>
    refine ⟨a, 1, 0, b, 0, 1, (Row3.new w a 1 0).al _, ?_, HS, ((Below.refl _ w).alloc (Nat.le_refl _) _).alloc (by simp) _⟩
    have := Row3.new (w.alloc (.cells #[.int .i64 a, .int .i64 1, .int .i64 0] 29)) b 0 1
    simpa using this
  case round =>
    obtain ⟨r0, x0, y0, r1, x1, y1, h0, h1, HZ, hB⟩ := hrel
    have p0 := h0.c0
    have p1 := h0.c1
    have p2 := h0.c2
    have q0 := h1.c0
    have q1 := h1.c1
    have q2 := h1.c2
    by_cases hz : r1 = 0
    · have tz : (r1 != 0) = false := by simp [hz]
      have HD : Hid (r0 = (euc a b).1 ∧ x0 = (euc a b).2.1 ∧ y0 = (euc a b).2.2) := by subst hz; exact HZ.out.done
      clear hz
      by_cases hn : r0 < 0
      · have tn : decide (r0 < 0) = true := by simp [hn]
        have HN : Hid (r0 < 0) := hn
        clear hn
        go_wp2_with fail
        refine (less_any 0 0 0 1 r0 x0 y0 wr).mono ?_
        rintro e w1 ⟨rfl, hB1⟩
        have k0 := h0.bel hB1 h0.lt
        have c1 := k0.c0
        have c2 := k0.c1
        have c3 := k0.c2
        have f1 := k0.fr 0
        have f2 := k0.fr 1
        have f3 := k0.fr 2
        go_wp2_with fail
        go_quiet (fail)
        go_wp2_with fail
        refine bodyPost_ret (results_tmp4 rfl _ _ _) rfl ?_
        obtain ⟨e1, e2, e3⟩ := HD.out
        have hn := HN.out
        refine ⟨ret4 ?_ ?_ ?_, bel_drewN ?_ _⟩
        · unfold bz1 nz; rw [← e1, if_pos hn]
        · unfold bz2 nz; rw [← e1, ← e2, if_pos hn]
        · unfold bz3 nz; rw [← e1, ← e3, if_pos hn]
        · have hx : Below w.heap.size w w1 := hB.trans (hB1.mono (Nat.le_of_lt h0.lt))
          exact (((hx.setCell (p := ⟨w.heap.size, 0, none⟩) (Nat.le_refl _) _).setCell (p := ⟨w.heap.size, 1, none⟩) (Nat.le_refl _) _).setCell (p := ⟨w.heap.size, 2, none⟩) (Nat.le_refl _) _)
      · have tn : decide (r0 < 0) = false := by simp [hn]
        have HN : Hid (0 ≤ r0) := by show 0 ≤ r0; omega
        clear hn
        go_wp2_with fail
        go_quiet (fail)
        go_wp2_with fail
        refine bodyPost_ret (results_tmp4 rfl _ _ _) rfl ?_
        obtain ⟨e1, e2, e3⟩ := HD.out
        have hn : ¬ r0 < 0 := by have := HN.out; omega
        refine ⟨ret4 ?_ ?_ ?_, bel_drewN hB _⟩
        · unfold bz1 nz; rw [← e1, if_neg hn]
        · unfold bz2 nz; rw [← e1, ← e2, if_neg hn]
        · unfold bz3 nz; rw [← e1, ← e3, if_neg hn]
    · have tz : (r1 != 0) = true := by simp [hz]
      have HW : Hid (IntKind.i64.wrap (r0.tdiv r1) = r0.tdiv r1) := by
        show _ = _
        rw [IntWalk.i64_left]
        exact (In63.tdiv HZ.out.1 r1).in64.same
      go_wp2_with fail
      have hC : (fun w' => w'.cell? ⟨w.heap.size, 0, none⟩ = some (.int .i64 r0) ∧ w'.cell? ⟨w.heap.size, 1, none⟩ = some (.int .i64 x0) ∧ w'.cell? ⟨w.heap.size, 2, none⟩ = some (.int .i64 y0) ∧ w'.cell? ⟨w.heap.size + 1, 0, none⟩ = some (.int .i64 r1) ∧ w'.cell? ⟨w.heap.size + 1, 1, none⟩ = some (.int .i64 x1) ∧ w'.cell? ⟨w.heap.size + 1, 2, none⟩ = some (.int .i64 y1)) wr.drew := ⟨p0, p1, p2, q0, q1, q2⟩
      refine anyT_begin 9 (fun w' => w'.cell? ⟨w.heap.size, 0, none⟩ = some (.int .i64 r0) ∧ w'.cell? ⟨w.heap.size, 1, none⟩ = some (.int .i64 x0) ∧ w'.cell? ⟨w.heap.size, 2, none⟩ = some (.int .i64 y0) ∧ w'.cell? ⟨w.heap.size + 1, 0, none⟩ = some (.int .i64 r1) ∧ w'.cell? ⟨w.heap.size + 1, 1, none⟩ = some (.int .i64 x1) ∧ w'.cell? ⟨w.heap.size + 1, 2, none⟩ = some (.int .i64 y1)) 11 #[false, false, false, false, false, false, false, false, false, false, false] (by kernel_rfl) rfl rfl ?_
      refine anyT_take 0 24 (.agg #[.int .i64 r1, .int .i64 x1, .int .i64 y1]) #[true, false, false, false, false, false, false, false, false, false, false] rfl rfl rfl (by kernel_rfl) (by kernel_rfl) (by kernel_rfl) (fun _ _ _ h => h) (by kernel_rfl) (by decide) (by kernel_rfl) (Or.inl ⟨by rfl, ?_⟩) hC ?_
      · intro w' hw'; (try dsimp only at hw'); go_simp
      simp only [Act.put, List.setIfInBounds_toArray, List.set_cons_zero, List.set_cons_succ]
      refine anyT_take 1 25 (.agg #[.int .i64 r0, .int .i64 x0, .int .i64 y0]) #[true, true, false, false, false, false, false, false, false, false, false] rfl rfl rfl (by kernel_rfl) (by kernel_rfl) (by kernel_rfl) (fun _ _ _ h => h) (by kernel_rfl) (by decide) (by kernel_rfl) (Or.inl ⟨by rfl, ?_⟩) hC ?_
      · intro w' hw'; (try dsimp only at hw'); go_simp
      simp only [Act.put, List.setIfInBounds_toArray, List.set_cons_zero, List.set_cons_succ]
      refine anyT_put 2 26 (.pointer (some ⟨w.heap.size, 0, none⟩)) #[true, true, true, false, false, false, false, false, false, false, false] rfl rfl rfl (by kernel_rfl) (by kernel_rfl) (by kernel_rfl) (fun _ _ _ h => h) (by decide) (Or.inl ⟨by rfl, ?_⟩) (fun _ => hC) ?_
      · intro w'; go_simp
      simp only [Act.put, List.setIfInBounds_toArray, List.set_cons_zero, List.set_cons_succ]
      refine anyT_take 3 27 (.int .i64 r0) #[true, true, true, true, false, false, false, false, false, false, false] rfl rfl rfl (by kernel_rfl) (by kernel_rfl) (by kernel_rfl) (fun _ _ _ h => h) (by kernel_rfl) (by decide) (by kernel_rfl) (Or.inl ⟨by rfl, ?_⟩) hC ?_
      · intro w' hw'; (try dsimp only at hw'); go_simp
      simp only [Act.put, List.setIfInBounds_toArray, List.set_cons_zero, List.set_cons_succ]
      refine anyT_put 4 28 (.pointer (some ⟨w.heap.size + 1, 0, none⟩)) #[true, true, true, true, true, false, false, false, false, false, false] rfl rfl rfl (by kernel_rfl) (by kernel_rfl) (by kernel_rfl) (fun _ _ _ h => h) (by decide) (Or.inl ⟨by rfl, ?_⟩) (fun _ => hC) ?_
      · intro w'; go_simp
      simp only [Act.put, List.setIfInBounds_toArray, List.set_cons_zero, List.set_cons_succ]
      refine anyT_two 5 7 29 31 (.int .i64 r1) (.agg #[.int .i64 r1, .int .i64 x1, .int .i64 y1]) #[true, true, true, true, true, true, false, false, false, false, false] #[true, true, true, true, true, false, false, true, false, false, false] (by kernel_rfl) rfl rfl rfl rfl rfl rfl (Or.inl ⟨by rfl, ?_⟩) (Or.inl ⟨by rfl, ?_⟩) hC ?_ ?_
      · intro w' hw'; (try dsimp only at hw'); go_simp
      · intro w' hw'; (try dsimp only at hw'); go_simp
      · simp only [Act.put, List.setIfInBounds_toArray, List.set_cons_zero, List.set_cons_succ]
        refine anyT_put 6 30 (.int .i64 (IntKind.i64.wrap (r0.tdiv r1))) #[true, true, true, true, true, true, true, false, false, false, false] rfl rfl rfl (by kernel_rfl) (by kernel_rfl) (by kernel_rfl) (fun _ _ _ h => h) (by decide) (Or.inl ⟨by rfl, ?_⟩) (fun _ => hC) ?_
        · intro w'; go_simp
        simp only [Act.put, List.setIfInBounds_toArray, List.set_cons_zero, List.set_cons_succ]
        refine anyT_read 7 31 (.agg #[.int .i64 r1, .int .i64 x1, .int .i64 y1]) #[true, true, true, true, true, true, true, true, false, false, false] (by kernel_rfl) rfl rfl rfl (Or.inl ⟨by rfl, ?_⟩) hC ?_
        · intro w' hw'; (try dsimp only at hw'); go_simp
        simp only [Act.put, List.setIfInBounds_toArray, List.set_cons_zero, List.set_cons_succ]
        refine anyT_one 8 #[true, true, true, true, true, true, true, true, true, false, false] (by kernel_rfl) rfl rfl (fun K hK => ?_)
        go_simp
        go_wp2_with (go_at_call 5; refine (less_rows w.heap.size r0 x0 y0 r1 x1 y1 (IntKind.i64.wrap (r0.tdiv r1)) wr.drew h0.dr h1.dr).mono ?_; rintro e w1 ⟨rfl, c1, c2, c3, c4, c5, c6, f1, f2, f3, f4, f5, f6, k0, k1, hB1⟩)
        refine hK.out _ _ (fun _ => ⟨c1, c2, c3, c4, c5, c6⟩) ?_
        clear hK K
        refine anyT_one 9 #[true, true, true, true, true, true, true, true, true, true, false] (by kernel_rfl) rfl rfl (fun K hK => ?_)
        go_simp
        refine hK.out _ _ (fun h => absurd h (by decide)) ?_
        clear hK K
        refine anyT_one 10 #[true, true, true, true, true, true, true, true, true, true, true] (by kernel_rfl) rfl rfl (fun K hK => ?_)
        go_simp
        refine hK.out _ _ (fun h => absurd h (by decide)) ?_
        clear hK K
        refine anyT_done (by kernel_rfl) ?_
        go_wp2_with fail
        rw [HW.out]
        have hR := set_rows k0 k1 (hB.drew.trans hB1) r1 x1 y1 (ls (r0.tdiv r1) r0 r1) (ls (r0.tdiv r1) x0 x1) (ls (r0.tdiv r1) y0 y1)
        refine ⟨⟨r1, x1, y1, _, _, _, hR.1, hR.2.1, HZ.out.next hz, hR.2.2⟩, ?_⟩
        rw [hR.2.1.at, h1.at, ls_tmod HZ.out.2.1 hz]
        exact tmod_abs r0 hz
      · simp only [Act.put, List.setIfInBounds_toArray, List.set_cons_zero, List.set_cons_succ]
        refine anyT_read 5 29 (.int .i64 r1) #[true, true, true, true, true, true, false, true, false, false, false] (by kernel_rfl) rfl rfl rfl (Or.inl ⟨by rfl, ?_⟩) hC ?_
        · intro w' hw'; (try dsimp only at hw'); go_simp
        simp only [Act.put, List.setIfInBounds_toArray, List.set_cons_zero, List.set_cons_succ]
        refine anyT_put 6 30 (.int .i64 (IntKind.i64.wrap (r0.tdiv r1))) #[true, true, true, true, true, true, true, true, false, false, false] rfl rfl rfl (by kernel_rfl) (by kernel_rfl) (by kernel_rfl) (fun _ _ _ h => h) (by decide) (Or.inl ⟨by rfl, ?_⟩) (fun _ => hC) ?_
        · intro w'; go_simp
        simp only [Act.put, List.setIfInBounds_toArray, List.set_cons_zero, List.set_cons_succ]
        refine anyT_one 8 #[true, true, true, true, true, true, true, true, true, false, false] (by kernel_rfl) rfl rfl (fun K hK => ?_)
        go_simp
        go_wp2_with (go_at_call 5; refine (less_rows w.heap.size r0 x0 y0 r1 x1 y1 (IntKind.i64.wrap (r0.tdiv r1)) wr.drew h0.dr h1.dr).mono ?_; rintro e w1 ⟨rfl, c1, c2, c3, c4, c5, c6, f1, f2, f3, f4, f5, f6, k0, k1, hB1⟩)
        refine hK.out _ _ (fun _ => ⟨c1, c2, c3, c4, c5, c6⟩) ?_
        clear hK K
        refine anyT_one 9 #[true, true, true, true, true, true, true, true, true, true, false] (by kernel_rfl) rfl rfl (fun K hK => ?_)
        go_simp
        refine hK.out _ _ (fun h => absurd h (by decide)) ?_
        clear hK K
        refine anyT_one 10 #[true, true, true, true, true, true, true, true, true, true, true] (by kernel_rfl) rfl rfl (fun K hK => ?_)
        go_simp
        refine hK.out _ _ (fun h => absurd h (by decide)) ?_
        clear hK K
        refine anyT_done (by kernel_rfl) ?_
        go_wp2_with fail
        rw [HW.out]
        have hR := set_rows k0 k1 (hB.drew.trans hB1) r1 x1 y1 (ls (r0.tdiv r1) r0 r1) (ls (r0.tdiv r1) x0 x1) (ls (r0.tdiv r1) y0 y1)
        refine ⟨⟨r1, x1, y1, _, _, _, hR.1, hR.2.1, HZ.out.next hz, hR.2.2⟩, ?_⟩
        rw [hR.2.1.at, h1.at, ls_tmod HZ.out.2.1 hz]
        exact tmod_abs r0 hz
set_option maxHeartbeats 1000000 in
theorem bez_no (a b : Int) (h : a = -9223372036854775808 ∨ b = -9223372036854775808) (w : World) : Calls Try.prog 4 #[.int .i64 a, .int .i64 b] w fun e w' => e = .returned (.tuple #[.int .i64 0, .int .i64 0, .int .i64 0, .iface 27 (.int .i64 6)]) ∧ w' = w := by
  by_cases ha : a = -9223372036854775808
  · subst ha
    go_enter Try.func4, Try.ntmps4
    go_wp2_with fail
    refine bodyPost_ret (results_tmp4 rfl _ _ _) rfl ?_
    exact ⟨rfl, rfl⟩
  · have hb := h.resolve_left ha
    have t1 : (a == -9223372036854775808) = false := by simp [ha]
    subst hb
    clear h ha
    go_enter Try.func4, Try.ntmps4
    go_wp2_with fail
    refine bodyPost_ret (results_tmp4 rfl _ _ _) rfl ?_
    exact ⟨rfl, rfl⟩
end Go.Proofs.Yteiohkajbokekaa
