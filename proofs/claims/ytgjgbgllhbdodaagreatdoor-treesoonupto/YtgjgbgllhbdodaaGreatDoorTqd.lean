/-
  The statements' question whether two lists of nodes are the same: where they are; and words in a row.
-/
import Derived.Laws.StructEq
import Derived.Test.YtgjgbgllhbdodaaGreatDoorTqc
namespace Go.Proofs.YtgjgbgllhbdodaaGreatDoor
open Go.RowKit Go.Lib
set_option linter.unusedVariables false

def ndz (bs : List NdA) (j : Nat) : NdA := bs.getD j (⟨0, ac0, 0, [], []⟩, .nilIface)
/-- Seven cells of a node. -/
def NdX (w : World) (g off : Nat) (b : NdA) : Prop :=
  w.cell? ⟨g, off, none⟩ = some (.int .i64 b.1.op) ∧ w.cell? ⟨g, off + 1, none⟩ = some (.int .i64 b.1.ac.op) ∧ w.cell? ⟨g, off + 2, none⟩ = some (.int .i64 b.1.ac.f) ∧ w.cell? ⟨g, off + 3, none⟩ = some (.int .i64 b.1.ac.g) ∧ w.cell? ⟨g, off + 4, none⟩ = some (.int .i64 b.1.n) ∧ w.cell? ⟨g, off + 5, none⟩ = some b.2 ∧ w.cell? ⟨g, off + 6, none⟩ = some b.s
/-- A slice leads to these nodes. -/
def IsNd (w : World) (a : Option Addr) (bs : List NdA) : Prop :=
  bs = [] ∨ ∃ g off, a = some ⟨g, off, none⟩ ∧ g < w.heap.size ∧ ∀ j, j < bs.length → NdX w g (off + j * 7) (ndz bs j) ∧ NumV (fun _ => True) w (ndz bs j)
theorem cl7_at : ∀ (bs : List NdA) (j : Nat), j < bs.length → ∀ q, q < 7 → (cl7 bs)[j * 7 + q]? = (nd7 (ndz bs j))[q]?
  | [], j, h, _, _ => by simp at h
  | b :: r, 0, _, q, hq => by
    rw [Nat.zero_mul, Nat.zero_add]
    show (nd7 b ++ cl7 r)[q]? = (nd7 b)[q]?
    rw [List.getElem?_append_left (by simpa [nd7] using hq)]
  | b :: r, j + 1, h, q, hq => by
    have ih := cl7_at r j (by simpa using h) q hq
    have e : ndz (b :: r) (j + 1) = ndz r j := by simp [ndz]
    rw [e, ← ih]
    show (nd7 b ++ cl7 r)[(j + 1) * 7 + q]? = _
    rw [List.getElem?_append_right (by simp [nd7]; omega)]
    congr 1
    simp [nd7]; omega
theorem NodS.is {lo : Nat} {w : World} {a : Option Addr} {n c : Nat} {bs : List NdA} (h : NodS lo w (.slice a n c) n bs) : IsNd w a bs := by
  obtain ⟨hl, hO, hN⟩ := h
  by_cases h0 : n = 0
  · exact .inl (List.eq_nil_of_length_eq_zero (by omega))
  obtain ⟨g, rfl, hg, hc⟩ := own_news hO (by omega)
  refine .inr ⟨g, 0, rfl, hg, fun j hj => ?_⟩
  have hadd : ∀ i, (⟨g, 0, none⟩ : Addr).add i = ⟨g, i, none⟩ := by
    intro i; unfold Addr.add; split
    · rename_i h0; subst h0; rfl
    · simp
  have rd : ∀ q, q < 7 → ∀ u, (nd7 (ndz bs j))[q]? = some u → w.cell? ⟨g, j * 7 + q, none⟩ = some u := by
    intro q hq u hu
    have := hc (j * 7 + q) u (by rw [cl7_at bs j hj q hq]; exact hu)
    rwa [hadd] at this
  refine ⟨?_, hN _ ?_⟩
  · unfold NdX
    rw [Nat.zero_add]
    exact ⟨rd 0 (by decide) _ rfl, rd 1 (by decide) _ rfl, rd 2 (by decide) _ rfl, rd 3 (by decide) _ rfl, rd 4 (by decide) _ rfl, rd 5 (by decide) _ rfl, rd 6 (by decide) _ rfl⟩
  · unfold ndz
    rw [List.getD_eq_getElem?_getD, List.getElem?_eq_getElem hj]
    exact List.getElem_mem hj
theorem IsNd.go {w w' : World} {a : Option Addr} {bs : List NdA} (h : IsNd w a bs) (hB : Below w.heap.size w w') : IsNd w' a bs := by
  rcases h with h | ⟨g, off, e, hg, hc⟩
  · exact .inl h
  · refine .inr ⟨g, off, e, Nat.lt_of_lt_of_le hg hB.size, fun j hj => ?_⟩
    obtain ⟨⟨h0, h1, h2, h3, h4, h5, h6⟩, h7⟩ := hc j hj
    exact ⟨⟨(hB.cell (p := ⟨g, _, none⟩) hg).trans h0, (hB.cell (p := ⟨g, _, none⟩) hg).trans h1, (hB.cell (p := ⟨g, _, none⟩) hg).trans h2, (hB.cell (p := ⟨g, _, none⟩) hg).trans h3, (hB.cell (p := ⟨g, _, none⟩) hg).trans h4, (hB.cell (p := ⟨g, _, none⟩) hg).trans h5, (hB.cell (p := ⟨g, _, none⟩) hg).trans h6⟩, h7.go hB.size fun k hk _ => hB.block k hk⟩
theorem IsNd.at {w : World} {a : Option Addr} {bs : List NdA} (h : IsNd w a bs) {j : Nat} (hj : j < bs.length) : ∃ g off, a = some ⟨g, off, none⟩ ∧ g < w.heap.size ∧ ∀ j, j < bs.length → NdX w g (off + j * 7) (ndz bs j) ∧ NumV (fun _ => True) w (ndz bs j) := by
  rcases h with h | h
  · rw [h] at hj; simp at hj
  · exact h
theorem ndz_fst {xs ys : List NdA} (h : xs.map Prod.fst = ys.map Prod.fst) {j : Nat} (hj : j < xs.length) : (ndz xs j).1 = (ndz ys j).1 := by
  have hl := congrArg List.length h
  rw [List.length_map, List.length_map] at hl
  have h1 := congrArg (fun l => l[j]?) h
  simp only [List.getElem?_map, List.getElem?_eq_getElem hj, List.getElem?_eq_getElem (show j < ys.length by omega), Option.map_some] at h1
  unfold ndz
  rw [List.getD_eq_getElem?_getD, List.getD_eq_getElem?_getD, List.getElem?_eq_getElem hj, List.getElem?_eq_getElem (by omega)]
  exact Option.some.inj h1
theorem act_same (x y z : Int) (w : World) : (binOp .neq 32 (.agg #[.int .i64 x, .int .i64 y, .int .i64 z]) (.agg #[.int .i64 x, .int .i64 y, .int .i64 z])).run Tryz.prog w = .ok (.bool false) w := by simp [go_sem]
set_option maxRecDepth 100000 in
set_option maxHeartbeats 8000000 in
theorem nodes_same (a : Option Addr) (cap : Nat) (xs : List NdA) (a' : Option Addr) (cap' : Nat) (ys : List NdA) (hx : xs.length ≤ 1000000) (hnm : ∀ b ∈ xs, b.1.nums.length ≤ 1000000) (he : xs.map Prod.fst = ys.map Prod.fst) (w : World) (hI : IsNd w a xs) (hI' : IsNd w a' ys) (n : Nat) (hn : xs.length = n) :
    Calls Tryz.prog 11 #[.slice a n cap, .slice a' n cap'] w fun e w' => e = .returned (.bool true) ∧ Below w.heap.size w w' := by
  have hl : ys.length = n := by
    have := congrArg List.length he
    rw [List.length_map, List.length_map] at this; omega
  have H : Hid (xs.length = n ∧ ys.length = n ∧ xs.map Prod.fst = ys.map Prod.fst ∧ IsNd w a xs ∧ IsNd w a' ys) := ⟨hn, hl, he, hI, hI'⟩
  have HM : Hid (∀ b ∈ xs, b.1.nums.length ≤ 1000000) := hnm
  have hn1 : n ≤ 1000000 := by omega
  clear hx he hI hI' hn hl hnm
  go_enter Tryz.func11, Tryz.ntmps11
  go_wp2_with fail
  go_loopw [5] (fun i wr => ∃ k : Nat, k ≤ n ∧ i = .int .i64 k ∧ Hid (Below w.heap.size w wr)) (fun i _ => n - (RowKit.intOf i).toNat)
  case atStart => exact ⟨0, Nat.zero_le _, rfl, Below.refl _ _⟩
  case round =>
    obtain ⟨k, hk, rfl, HB⟩ := hrel
    by_cases hlt : k < n
    · have hkx : k < xs.length := by rw [H.out.1]; exact hlt
      have hky : k < ys.length := by rw [H.out.2.1]; exact hlt
      obtain ⟨g, off, ha, hg, hc⟩ := (H.out.2.2.2.1.go HB.out).at hkx
      obtain ⟨g', off', ha', hg', hc'⟩ := (H.out.2.2.2.2.go HB.out).at hky
      obtain ⟨⟨c0, c1, c2, c3, c4, c5, c6⟩, u, uc, hu, hun⟩ := hc k hkx
      obtain ⟨⟨d0, d1, d2, d3, d4, d5, d6⟩, v, vc, hv, hvn⟩ := hc' k hky
      have hfst := ndz_fst H.out.2.2.1 hkx
      unfold NdA.s at c6 d6
      rw [hu] at c5
      rw [hv] at d5
      rw [← hfst] at d0 d1 d2 d3 d4 d5 d6 hvn
      subst ha ha'
      clear hc hc' hu hv hfst
      have hzl : (ndz xs k).1.nums.length ≤ 1000000 := HM.out _ (by unfold ndz; rw [List.getD_eq_getElem?_getD, List.getElem?_eq_getElem hkx]; exact List.getElem_mem hkx)
      have hsame : (eqB (ndz xs k).1.nums (ndz xs k).1.nums) = true := eqB_true rfl
      generalize hz : (ndz xs k).1.nums = zs at *
      have HZ : Hid (IsInts wr.heap.size wr u zs ∧ IsInts wr.heap.size wr v zs) := ⟨hun.ints, hvn.ints⟩
      clear hun hvn hz
      generalize (ndz xs k).1.op = o0 at *
      generalize (ndz xs k).1.ac.op = o1 at *
      generalize (ndz xs k).1.ac.f = o2 at *
      generalize (ndz xs k).1.ac.g = o3 at *
      generalize (ndz xs k).1.n = o4 at *
      generalize (⟨(ndz xs k).1.text.toArray⟩ : ByteArray) = o5 at *
      have hact := act_same o1 o2 o3
      go_wp2_with fail
      have hint := fun W (hb : Below wr.heap.size wr W) => ints_any u uc zs v vc zs (by omega) wr.heap.size W (HZ.out.1.below hb) (HZ.out.2.below hb)
      rw [hsame] at hint
      clear hsame
      go_region_with (go_at_call 25; refine (hint wr.drew (Below.refl _ wr).drew).mono ?_; rintro e w1 ⟨rfl, hb1⟩; have HB1 : Hid (Below wr.heap.size wr w1) := (Below.refl _ wr).drew.trans hb1; clear hb1)
      all_goals
        have e0 := (HB1.out.cell (p := ⟨g, off + k * 7, none⟩) hg).trans c0
        have e1 := (HB1.out.cell (p := ⟨g, off + k * 7 + 1, none⟩) hg).trans c1
        have e2 := (HB1.out.cell (p := ⟨g, off + k * 7 + 2, none⟩) hg).trans c2
        have e3 := (HB1.out.cell (p := ⟨g, off + k * 7 + 3, none⟩) hg).trans c3
        have e4 := (HB1.out.cell (p := ⟨g, off + k * 7 + 4, none⟩) hg).trans c4
        have e6 := (HB1.out.cell (p := ⟨g, off + k * 7 + 6, none⟩) hg).trans c6
        have b0 := (HB1.out.cell (p := ⟨g', off' + k * 7, none⟩) hg').trans d0
        have b1 := (HB1.out.cell (p := ⟨g', off' + k * 7 + 1, none⟩) hg').trans d1
        have b2 := (HB1.out.cell (p := ⟨g', off' + k * 7 + 2, none⟩) hg').trans d2
        have b3 := (HB1.out.cell (p := ⟨g', off' + k * 7 + 3, none⟩) hg').trans d3
        have b4 := (HB1.out.cell (p := ⟨g', off' + k * 7 + 4, none⟩) hg').trans d4
        have b6 := (HB1.out.cell (p := ⟨g', off' + k * 7 + 6, none⟩) hg').trans d6
        clear c0 c1 c2 c3 c4 c5 c6 d0 d1 d2 d3 d4 d5 d6 hint
        go_wp2_with fail
        go_quiet (fail)
        go_wp2
        go_roundw
        case rel => exact ⟨k + 1, hlt, by go_num, bel_drewN (HB.out.trans (HB1.out.mono HB.out.size)) _⟩
        case measure => simp [RowKit.intOf]; omega
    · obtain rfl : k = n := by omega
      go_wp2_with fail
      go_ret
      exact ⟨rfl, HB.out⟩
/-- Words that lie in a block of their own. -/
theorem is_lit18 (w : World) (ts : List TkA) : IsTk (w.alloc (.cells (cl5 ts).toArray 30)).heap.size (w.alloc (.cells (cl5 ts).toArray 30)) (some ⟨w.heap.size, 0, none⟩) ts := by
  refine .inr ⟨w.heap.size, 0, rfl, by simp, fun j hj => ?_⟩
  have hb := World.alloc_heap_new w (.cells (cl5 ts).toArray 30)
  have rd : ∀ i, (w.alloc (.cells (cl5 ts).toArray 30)).cell? ⟨w.heap.size, i, none⟩ = (cl5 ts)[i]? := fun i => by
    unfold World.cell?
    rw [hb]
    simp
  obtain ⟨c0, c1, c2, c3, c4⟩ := cl5_at ts j hj
  unfold TkC
  rw [Nat.zero_add, rd, rd, rd, rd, rd]
  exact ⟨c0, c1, c2, c3, c4⟩
/-- Words in a slice, as cells one behind the other. -/
theorem cl5_news {w : World} {g : Nat} : ∀ (ts : List TkA) (off : Nat), (∀ j, j < ts.length → TkC w g (off + j * 5) (tkz ts j)) → ∀ i u, (cl5 ts)[i]? = some u → w.cell? ⟨g, off + i, none⟩ = some u
  | [], off, _, i, u, h => by simp [cl5] at h
  | b :: r, off, hc, i, u, h => by
    have h0 := hc 0 (by simp)
    rw [show tkz (b :: r) 0 = b from rfl, Nat.zero_mul, Nat.add_zero] at h0
    obtain ⟨q0, q1, q2, q3, q4⟩ := h0
    match i, h with
    | 0, h => cases h; exact q0
    | 1, h => cases h; exact q1
    | 2, h => cases h; exact q2
    | 3, h => cases h; exact q3
    | 4, h => cases h; exact q4
    | i + 5, h =>
      have ih := cl5_news r (off + 5) (fun j hj => by
        have := hc (j + 1) (by simpa using hj)
        rw [show tkz (b :: r) (j + 1) = tkz r j by simp [tkz]] at this
        rw [show off + 5 + j * 5 = off + (j + 1) * 5 by omega]; exact this) i u h
      rw [show off + (i + 5) = off + 5 + i by omega]; exact ih
theorem cl5_app18 : ∀ (xs ys : List TkA), cl5 (xs ++ ys) = cl5 xs ++ cl5 ys
  | [], ys => rfl
  | x :: r, ys => by simp only [List.cons_append, cl5, cl5_app18 r ys]
theorem cl5_one18 : ∀ (ts : List TkA), ∀ u ∈ cl5 ts, u.oneCell' = true
  | [], u, h => by cases h
  | b :: r, u, h => by
    simp only [cl5, List.mem_cons] at h
    rcases h with rfl | rfl | rfl | rfl | rfl | h
    all_goals first | rfl | exact cl5_one18 r u h
end Go.Proofs.YtgjgbgllhbdodaaGreatDoor
