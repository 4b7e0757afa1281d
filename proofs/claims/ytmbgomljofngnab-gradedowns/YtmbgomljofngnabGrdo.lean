/-
  The program's order of rows: its closure over two boxes, and the sort.
-/
import Derived.Test.YtmbgomljofngnabGrdc
import Derived.Test.YtmbgomljofngnabGrdr
import Derived.Test.YtmbgomljofngnabSrtz
namespace Go.Proofs.Ytmbgomljofngnab
open Go.RowKit
set_option linter.unusedVariables false

/-- The row that a slice of rows has. -/
theorem rwV_at {n₀ : Nat} {W : World} {da : Option Addr} {dz : List Int} {dc n long B j : Nat} (h : IsC n₀ W da dz dc) (hn : n * long ≤ dz.length) (hr : W.rowIs B 22 n (rwV da dc long)) (hj : j < n) :
    ∃ ad cp, W.cell? ⟨B, j, none⟩ = some (.slice ad (rwL dz long j).length cp) ∧ IsInts n₀ W ad (rwL dz long j) := by
  obtain ⟨ad, cp, e, hI⟩ := rwV_is h hn hj
  exact ⟨ad, cp, by rw [hr.cell hj, e, rwL_length hn hj], hI.1⟩
set_option maxRecDepth 100000 in
set_option maxHeartbeats 4000000 in
theorem ord1_any (f : Nat) (hE : ∀ args w, (callFunc f args).run Try.prog w = .ok (.enter f args) w) (cmp : List Int → List Int → Int) (hF : RwF f cmp) (da : Option Addr) (dc : Nat) (dz : List Int) (n long : Nat) (hn : n * long ≤ dz.length) (h4 : n ≤ 4096) (hz : dz.length ≤ 4096)
    (Br Bc R rc n₀ : Nat) (x y : Nat) (hx : x < n) (hy : y < n) (W : World) (hd : IsC n₀ W da dz dc) (hR : W.rowIs R 22 n (rwV da dc long)) (hr : W.cell? ⟨Br, 0, none⟩ = some (.slice (some ⟨R, 0, none⟩) n rc)) (hc : W.cell? ⟨Bc, 0, none⟩ = some (.func (.func f) #[] #[])) :
    Calls Try.prog 65 #[.int .i64 (x : Nat), .int .i64 (y : Nat), .pointer (some ⟨Bc, 0, none⟩), .pointer (some ⟨Br, 0, none⟩)] W fun r W' => r = .returned (.int .i64 (cmp (rwL dz long x) (rwL dz long y))) ∧ Below W.heap.size W W' := by
  obtain ⟨ax, cx, ex, hIx⟩ := rwV_at hd hn hR hx
  obtain ⟨ay, cy, ey, hIy⟩ := rwV_at hd hn hR hy
  have lx := rwL_length hn hx
  have ly := rwL_length hn hy
  have hll : long ≤ 4096 := by
    have := Nat.mul_le_mul_right long (show 1 ≤ n by omega)
    omega
  have HC : Hid (Calls Try.prog f #[.slice ax (rwL dz long x).length cx, .slice ay (rwL dz long y).length cy] W.drew fun e w' => e = .returned (.int .i64 (cmp (rwL dz long x) (rwL dz long y))) ∧ w' = W.drew) := hF ax cx _ ay cy _ (by omega) (by omega) n₀ W.drew hIx hIy
  clear hIx hIy hd hR hF lx ly
  generalize rwL dz long x = X at *
  generalize rwL dz long y = Y at *
  go_enter Try.func65, Try.ntmps65
  go_wp2_with fail
  refine anyT_begin 10 (fun w' => w'.cell? ⟨Br, 0, none⟩ = some (.slice (some ⟨R, 0, none⟩) n rc) ∧ w'.cell? ⟨Bc, 0, none⟩ = some (.func (.func f) #[] #[]) ∧ w'.cell? ⟨R, x, none⟩ = some (.slice ax X.length cx) ∧ w'.cell? ⟨R, y, none⟩ = some (.slice ay Y.length cy)) 11 #[false, false, false, false, false, false, false, false, false, false, false] (by kernel_rfl) rfl rfl ?_
  refine anyT_take 0 7 ?rv241 #[true, false, false, false, false, false, false, false, false, false, false] rfl rfl rfl (by kernel_rfl) (by kernel_rfl) (by kernel_rfl) (fun _ _ _ h => h) (by kernel_rfl) (by decide) (by kernel_rfl) ?ry241 (⟨hr, hc, ex, ey⟩) ?rm241
  case ry241 => first | exact Or.inl ⟨by rfl, by intro w' hw'; (try dsimp only at hw'); go_simp; first | done | rfl⟩
  case rm241 =>
  simp only [Act.put, List.setIfInBounds_toArray, List.set_cons_zero, List.set_cons_succ]
  refine anyT_take 1 8 ?rv242 #[true, true, false, false, false, false, false, false, false, false, false] rfl rfl rfl (by kernel_rfl) (by kernel_rfl) (by kernel_rfl) (fun _ _ _ h => h) (by kernel_rfl) (by decide) (by kernel_rfl) ?ry242 (⟨hr, hc, ex, ey⟩) ?rm242
  case ry242 => first | exact Or.inl ⟨by rfl, by intro w' hw'; (try dsimp only at hw'); go_simp; first | done | rfl⟩
  case rm242 =>
  simp only [Act.put, List.setIfInBounds_toArray, List.set_cons_zero, List.set_cons_succ]
  refine anyT_put 2 9 ?rv243 #[true, true, true, false, false, false, false, false, false, false, false] rfl rfl rfl (by kernel_rfl) (by kernel_rfl) (by kernel_rfl) (fun _ _ _ h => h) (by decide) ?ry243 (fun _ => ⟨hr, hc, ex, ey⟩) ?rm243
  case ry243 => first | exact Or.inl ⟨by rfl, by intro w'; go_simp; first | done | rfl⟩
  case rm243 =>
  simp only [Act.put, List.setIfInBounds_toArray, List.set_cons_zero, List.set_cons_succ]
  refine anyT_put 3 10 ?rv244 #[true, true, true, true, false, false, false, false, false, false, false] rfl rfl rfl (by kernel_rfl) (by kernel_rfl) (by kernel_rfl) (fun _ _ _ h => h) (by decide) ?ry244 (fun _ => ⟨hr, hc, ex, ey⟩) ?rm244
  case ry244 => first | exact Or.inl ⟨by rfl, by intro w'; go_simp; first | done | rfl⟩
  case rm244 =>
  simp only [Act.put, List.setIfInBounds_toArray, List.set_cons_zero, List.set_cons_succ]
  refine anyT_take 4 11 ?rv245 #[true, true, true, true, true, false, false, false, false, false, false] rfl rfl rfl (by kernel_rfl) (by kernel_rfl) (by kernel_rfl) (fun _ _ _ h => h) (by kernel_rfl) (by decide) (by kernel_rfl) ?ry245 (⟨hr, hc, ex, ey⟩) ?rm245
  case ry245 => first | exact Or.inl ⟨by rfl, by intro w' hw'; (try dsimp only at hw'); go_simp; first | done | rfl⟩
  case rm245 =>
  simp only [Act.put, List.setIfInBounds_toArray, List.set_cons_zero, List.set_cons_succ]
  refine anyT_take 5 12 ?rv246 #[true, true, true, true, true, true, false, false, false, false, false] rfl rfl rfl (by kernel_rfl) (by kernel_rfl) (by kernel_rfl) (fun _ _ _ h => h) (by kernel_rfl) (by decide) (by kernel_rfl) ?ry246 (⟨hr, hc, ex, ey⟩) ?rm246
  case ry246 => first | exact Or.inl ⟨by rfl, by intro w' hw'; (try dsimp only at hw'); go_simp; first | done | rfl⟩
  case rm246 =>
  simp only [Act.put, List.setIfInBounds_toArray, List.set_cons_zero, List.set_cons_succ]
  refine anyT_put 6 13 ?rv247 #[true, true, true, true, true, true, true, false, false, false, false] rfl rfl rfl (by kernel_rfl) (by kernel_rfl) (by kernel_rfl) (fun _ _ _ h => h) (by decide) ?ry247 (fun _ => ⟨hr, hc, ex, ey⟩) ?rm247
  case ry247 => first | exact Or.inl ⟨by rfl, by intro w'; go_simp; first | done | rfl⟩
  case rm247 =>
  simp only [Act.put, List.setIfInBounds_toArray, List.set_cons_zero, List.set_cons_succ]
  refine anyT_put 7 14 ?rv248 #[true, true, true, true, true, true, true, true, false, false, false] rfl rfl rfl (by kernel_rfl) (by kernel_rfl) (by kernel_rfl) (fun _ _ _ h => h) (by decide) ?ry248 (fun _ => ⟨hr, hc, ex, ey⟩) ?rm248
  case ry248 => first | exact Or.inl ⟨by rfl, by intro w'; go_simp; first | done | rfl⟩
  case rm248 =>
  simp only [Act.put, List.setIfInBounds_toArray, List.set_cons_zero, List.set_cons_succ]
  refine anyT_take 8 15 ?rv249 #[true, true, true, true, true, true, true, true, true, false, false] rfl rfl rfl (by kernel_rfl) (by kernel_rfl) (by kernel_rfl) (fun _ _ _ h => h) (by kernel_rfl) (by decide) (by kernel_rfl) ?ry249 (⟨hr, hc, ex, ey⟩) ?rm249
  case ry249 => first | exact Or.inl ⟨by rfl, by intro w' hw'; (try dsimp only at hw'); go_simp; first | done | rfl⟩
  case rm249 =>
  simp only [Act.put, List.setIfInBounds_toArray, List.set_cons_zero, List.set_cons_succ]
  refine anyT_one 9 #[true, true, true, true, true, true, true, true, true, true, false] (by kernel_rfl) rfl rfl (fun K hK => ?_)
  go_simp
  go_wp2_with fail
  refine HC.out.mono ?_
  rintro e v1 ⟨rfl, rfl⟩
  refine hK.out _ _ (fun _ => ⟨hr, hc, ex, ey⟩) ?_
  clear hK K
  refine anyT_one 10 #[true, true, true, true, true, true, true, true, true, true, true] (by kernel_rfl) rfl rfl (fun K hK => ?_)
  go_simp
  refine hK.out _ _ (fun h => absurd h (by decide)) ?_
  clear hK K
  refine anyT_done (by kernel_rfl) ?_
  go_wp2_with fail
  go_ret
  exact ⟨rfl, (Below.refl _ W).drew⟩
theorem idn_up {n : Nat} {W : World} {B : Nat} (h : W.rowIs B 3 n (fun j => if j < n then .int .i64 (j : Int) else .int .i64 0)) : W.rowIs B 3 n (zc (idn n)) := h.congr fun j hj => by
  show (if j < n then Value.int .i64 (j : Int) else .int .i64 0) = _
  rw [if_pos hj]
  unfold zc
  rw [show nth (idn n) j = (j : Int) by rw [nth_get _ _ (by simp [idn]; exact hj)]; simp [idn]]
def upI (k j : Nat) : Value := if j < k then .int .i64 (j : Int) else .int .i64 0
theorem upI_set {W : World} {B n k : Nat} (h : W.rowIs B 3 n (upI k)) : (W.setCell ⟨B, k, none⟩ (.int .i64 (k : Int))).rowIs B 3 n (upI (k + 1)) := by
  refine (h.set k _).congr fun j hj => ?_
  unfold upI
  by_cases e : j = k
  · rw [if_pos e, if_pos (by omega), e]
  · rw [if_neg e]
    by_cases h1 : j < k
    · rw [if_pos h1, if_pos (by omega)]
    · rw [if_neg h1, if_neg (by omega)]
/-- An order that is told. -/
def OrP (L : List Int) (w : World) (r : Ending) (w' : World) : Prop := ∃ g gc, r = .returned (.slice g L.length gc) ∧ NewC w.heap.size w' g L gc ∧ Below w.heap.size w w'
theorem zc_new {W : World} {B n lo : Nat} {z : List Int} (h : W.rowIs B 3 n (zc z)) (hl : z.length = n) (hlo : lo ≤ B) : NewC lo W (some ⟨B, 0, none⟩) z n :=
  ⟨.inr ⟨B, 0, rfl, hlo, h.lt, fun j hj => by rw [Nat.zero_add]; exact h.cell (by omega), fun j => h.frozen _⟩, by omega⟩
theorem bel_gr {n₀ : Nat} {w v W : World} {S : Nat} (h : Below n₀ w v) (hg : v.grownBy W (some S)) (hS : n₀ ≤ S) (hn : n₀ ≤ v.heap.size) : Below n₀ w W :=
  h.grown hg hn fun k e => by cases e; exact hS
theorem ints_gr {n₀ : Nat} {A B : World} {S : Nat} (hg : A.grownBy B (some S)) (hn : n₀ ≤ S) (hs : n₀ ≤ A.heap.size) {a : Option Addr} {zs : List Int} {cap : Nat} (h : IsC n₀ A a zs cap) : IsC n₀ B a zs cap :=
  h.below ((Below.refl _ A).grown hg hs fun k e => by cases e; exact hn)
set_option maxRecDepth 100000 in
set_option maxHeartbeats 4000000 in
theorem order_any (f : Nat) (hE : ∀ args w, (callFunc f args).run Try.prog w = .ok (.enter f args) w) (cmp : List Int → List Int → Int) (hF : RwF f cmp) (da : Option Addr) (dc : Nat) (dz : List Int) (n long : Nat) (hn : n * long ≤ dz.length) (h4 : n ≤ 4096) (hz : dz.length ≤ 4096)
    (lt : Nat → Nat → Bool) (T : Tot lt n) (hcl : ∀ x y, x < n → y < n → y < x → (cmp (rwL dz long x) (rwL dz long y) < 0 ↔ lt x y = true)) (R rc : Nat) (w : World) (hd : IsC w.heap.size w da dz dc) (hR : w.rowIs R 22 n (rwV da dc long)) :
    Calls Try.prog 35 #[.slice (some ⟨R, 0, none⟩) n rc, .func (.func f) #[] #[]] w (OrP (grd lt n) w) := by
  have hmk := run_make_row' (P := Try.prog) 22 3 (.int .i64 0) 8 Try.underlying22 Try.infoInt rfl .i64 .i64 n (by omega) (by omega)
  have HF : Hid (RwF f cmp ∧ Tot lt n ∧ (∀ x y, x < n → y < n → y < x → (cmp (rwL dz long x) (rwL dz long y) < 0 ↔ lt x y = true)) ∧ n * long ≤ dz.length) := ⟨hF, T, hcl, hn⟩
  have HD : Hid (IsC w.heap.size w da dz dc ∧ w.rowIs R 22 n (rwV da dc long)) := ⟨hd, hR⟩
  have hRl : R < w.heap.size := hR.lt
  obtain ⟨W2, hW2⟩ : ∃ W2, W2 = (w.alloc (.cells #[.slice (some ⟨R, 0, none⟩) n rc] 62)).alloc (.cells #[.func (.func f) #[] #[]] 64) := ⟨_, rfl⟩
  have HB2 : Hid (Below w.heap.size w W2) := by rw [hW2]; exact ((Below.refl _ w).alloc (Nat.le_refl _) _).alloc (by simp) _
  have hz2 : W2.heap.size = w.heap.size + 1 + 1 := by rw [hW2]; simp
  have HX : Hid (W2.cell? ⟨w.heap.size, 0, none⟩ = some (.slice (some ⟨R, 0, none⟩) n rc) ∧ W2.cell? ⟨w.heap.size + 1, 0, none⟩ = some (.func (.func f) #[] #[])) := by
    rw [hW2]
    have b1 : (w.alloc (.cells #[.slice (some ⟨R, 0, none⟩) n rc] 62)).heap[w.heap.size]? = some (.cells #[.slice (some ⟨R, 0, none⟩) n rc] 62 (0, 0)) := World.alloc_heap_new w _
    have b2 := World.alloc_heap_new (w.alloc (.cells #[.slice (some ⟨R, 0, none⟩) n rc] 62)) (.cells #[.func (.func f) #[] #[]] 64)
    rw [World.size_alloc] at b2
    constructor
    · refine (World.cell?_of_block (w := w.alloc (.cells #[.slice (some ⟨R, 0, none⟩) n rc] 62)) (a := ⟨w.heap.size, 0, none⟩) (Below.heap_alloc _ _ _ (by simp))).trans ?_
      simp only [World.cell?, b1]; rfl
    · simp only [World.cell?, b2]; rfl
  have HM : Hid ((W2.alloc (.cells (madeCells #[.int .i64 0] n) 3)).rowIs (w.heap.size + 1 + 1) 3 n (upI 0)) := by
    have h := World.rowIs_made W2 (.int .i64 0) n 3
    rw [hz2] at h
    exact h.congr fun j _ => by unfold upI; rw [if_neg (by omega)]
  have HW2 : Hid (W2 = (w.alloc (.cells #[.slice (some ⟨R, 0, none⟩) n rc] 62)).alloc (.cells #[.func (.func f) #[] #[]] 64)) := hW2
  clear hF T hcl hn hd hR hW2
  go_enter Try.func35, Try.ntmps35
  go_wp2_with fail
  clear hmk
  go_loopw [12] (fun i wr => ∃ k : Nat, k ≤ n ∧ i = .int .i64 k ∧ wr.rowIs (w.heap.size + 1 + 1) 3 n (upI k) ∧ Below (w.heap.size + 1 + 1) W2 wr) (fun i _ => n - (intOf i).toNat)
  case atStart =>
    rw [← HW2.out]
    exact ⟨0, Nat.zero_le _, rfl, HM.out, (Below.refl _ W2).alloc (by omega) _⟩
  case round =>
    obtain ⟨k, hk, rfl, hrow, hB⟩ := hrel
    have HR : Hid (wr.rowIs (w.heap.size + 1 + 1) 3 n (upI k)) := hrow
    have HB : Hid (Below (w.heap.size + 1 + 1) W2 wr) := hB
    by_cases hlt : k < n
    · have cc : wr.cell? ⟨w.heap.size + 1 + 1, k, none⟩ = some (.int .i64 0) := by
        rw [hrow.cell hlt]; unfold upI; rw [if_neg (by omega)]
      have ff := hrow.frozen k
      clear hrow hB
      go_wp2_with fail
      exact ⟨⟨k + 1, by omega, by go_num, upI_set HR.out, HB.out.setCell (p := ⟨w.heap.size + 1 + 1, k, none⟩) (by show w.heap.size + 1 + 1 ≤ w.heap.size + 1 + 1; omega) _⟩, by simp [intOf]; omega⟩
    · obtain rfl : k = n := by omega
      have hSz : w.heap.size + 1 + 1 < wr.heap.size := hrow.lt
      have HBw : Hid (Below w.heap.size w wr) := HB2.out.trans (hB.mono (by omega))
      have HCF : Hid (CmpF 65 [.pointer (some ⟨w.heap.size + 1, 0, none⟩), .pointer (some ⟨w.heap.size, 0, none⟩)] k (fun x y => cmp (rwL dz long x) (rwL dz long y)) (w.heap.size + 1 + 1) wr) := by
        intro x y W hx hy hg
        refine ord1_any f hE cmp HF.out.1 da dc dz k long HF.out.2.2.2 h4 hz w.heap.size (w.heap.size + 1) R rc w.heap.size x y hx hy W ?_ ?_ ?_ ?_
        · exact ints_gr hg (by omega) (by omega) (HD.out.1.below HBw.out)
        · exact HD.out.2.of_block (((hg.block R (by omega) (by simp; omega))).trans (HBw.out.block R hRl))
        · exact (World.cell?_of_block (w := wr) (a := ⟨w.heap.size, 0, none⟩) (hg.block w.heap.size (by omega) (by simp; omega))).trans ((hB.cell (p := ⟨w.heap.size, 0, none⟩) (by show w.heap.size < _; omega)).trans HX.out.1)
        · exact (World.cell?_of_block (w := wr) (a := ⟨w.heap.size + 1, 0, none⟩) (hg.block (w.heap.size + 1) (by omega) (by simp))).trans ((hB.cell (p := ⟨w.heap.size + 1, 0, none⟩) (by show w.heap.size + 1 < _; omega)).trans HX.out.2)
      have HS : Hid (Calls Try.prog 64 #[.slice (some ⟨w.heap.size + 1 + 1, 0, none⟩) k k, .func (.func 65) #[] #[.pointer (some ⟨w.heap.size + 1, 0, none⟩), .pointer (some ⟨w.heap.size, 0, none⟩)]] wr (SwP (w.heap.size + 1 + 1) k (grd lt k) wr)) :=
        sort_any (w.heap.size + 1 + 1) k k 65 [.pointer (some ⟨w.heap.size + 1, 0, none⟩), .pointer (some ⟨w.heap.size, 0, none⟩)] (enters_of Try.func65 (by kernel_rfl) rfl) lt _ HF.out.2.1 HF.out.2.2.1 wr HCF.out h4 wr (World.grownBy.refl _ _) (idn_up (hrow.congr fun j hj => rfl))
      clear hrow hB HCF
      go_wp2_with fail
      refine HS.out.mono ?_
      rintro e v1 ⟨⟨v', rfl⟩, hrow1, hG1⟩
      have HR1 : Hid (NewC w.heap.size v1 (some ⟨w.heap.size + 1 + 1, 0, none⟩) (grd lt k) k) := zc_new hrow1 grd_length (by omega)
      have HB1 : Hid (Below w.heap.size w v1) := bel_gr HBw.out hG1 (by omega) (by omega)
      clear hrow1 hG1
      go_wp2_with fail
      go_ret
      exact ⟨_, k, by rw [grd_length]; rfl, HR1.out, HB1.out⟩
end Go.Proofs.Ytmbgomljofngnab
