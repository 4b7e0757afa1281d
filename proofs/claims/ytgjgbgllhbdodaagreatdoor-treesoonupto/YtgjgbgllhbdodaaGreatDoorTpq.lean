/-
  Slices of nodes; the node of a part with those of its parts behind it.
-/
import Derived.Test.YtgjgbgllhbdodaaGreatDoorTpo
namespace Go.Proofs.YtgjgbgllhbdodaaGreatDoor
open Go.RowKit Go.Lib
set_option linter.unusedVariables false

theorem Tryz.infoNod : (Tryz.prog.info? 35).map (fun i => (i.zero, i.size, i.bytes)) = some (some (.agg #[.int .i64 0, .int .i64 0, .int .i64 0, .int .i64 0, .int .i64 0, .slice none 0 0, .string ⟨#[]⟩]), 7, 80) := by kernel_rfl
/-- A node with the value of its numbers. -/
abbrev NdA := Nod × Value
def NdA.s (b : NdA) : Value := .string ⟨b.1.text.toArray⟩
def nd7 (b : NdA) : List Value := [.int .i64 b.1.op, .int .i64 b.1.ac.op, .int .i64 b.1.ac.f, .int .i64 b.1.ac.g, .int .i64 b.1.n, b.2, b.s]
/-- The cells of nodes, one behind the other. -/
def cl7 : List NdA → List Value
  | [] => []
  | b :: r => nd7 b ++ cl7 r
theorem cl7_length : ∀ bs : List NdA, (cl7 bs).length = bs.length * 7
  | [] => rfl
  | b :: r => by simp only [cl7, List.length_append, List.length_cons, cl7_length r, nd7, List.length_nil]; omega
theorem cl7_app : ∀ xs bs : List NdA, cl7 (xs ++ bs) = cl7 xs ++ cl7 bs
  | [], bs => rfl
  | a :: r, bs => by simp only [List.cons_append, cl7, cl7_app r bs, List.append_assoc]
/-- The numbers of a node lie where they may. -/
def NumV (A : Nat → Prop) (w : World) (b : NdA) : Prop := ∃ a c, b.2 = .slice a b.1.nums.length c ∧ NumX A w a b.1.nums
theorem NumV.go {A : Nat → Prop} {w w' : World} {b : NdA} (h : NumV A w b) (hs : w.heap.size ≤ w'.heap.size) (hA : ∀ k, k < w.heap.size → A k → w'.heap[k]? = w.heap[k]?) : NumV A w' b := by
  obtain ⟨a, c, e, h⟩ := h; exact ⟨a, c, e, h.go hs hA⟩
theorem NumV.one {A : Nat → Prop} {w : World} {b : NdA} (h : NumV A w b) : b.2.oneCell' = true := by
  obtain ⟨a, c, e, _⟩ := h; rw [e]; rfl
theorem cl7_one {A : Nat → Prop} {w : World} : ∀ {bs : List NdA}, (∀ b ∈ bs, NumV A w b) → ∀ u ∈ cl7 bs, u.oneCell' = true
  | [], _, u, hu => by cases hu
  | b :: r, h, u, hu => by
    simp only [cl7, List.mem_append] at hu
    rcases hu with hu | hu
    · simp only [nd7, List.mem_cons, List.not_mem_nil, or_false] at hu
      rcases hu with rfl | rfl | rfl | rfl | rfl | rfl | rfl
      all_goals first | rfl | exact (h b (List.mem_cons_self ..)).one
    · exact cl7_one (fun b hb => h b (List.mem_cons_of_mem _ hb)) u hu
/-- A row of nodes in a block of the call's own. -/
def NdR (A : Nat → Prop) (W w : World) (lo : Nat) (v : Value) (n : Nat) (bs : List NdA) : Prop :=
  bs.length = n ∧ w.ownsRow lo 35 7 v n (cl7 bs) ∧ ∀ b ∈ bs, NumV A W b
/-- What telling a part's nodes leaves. -/
def NdsP (A : Nat → Prop) (W : World) (ns : List Nod) (w : World) (e : Ending) (w' : World) : Prop :=
  ∃ (a : Option Addr) (c : Nat) (bs : List NdA), e = .returned (.slice a ns.length c) ∧ bs.map Prod.fst = ns ∧ NdR A W w' w.heap.size (.slice a ns.length c) ns.length bs ∧ Below w.heap.size w w'
/-- Which function tells a part's nodes. -/
def NdT (T : TypeId) (x : Value) (K : Nat) : Prop :=
  (∀ w, (method 391 T x "ravelin/tree.nodes").run Tryz.prog w = .ok (K, x) w) ∧ ∀ args w, (callFunc K args).run Tryz.prog w = .ok (.enter K args) w
/-- A part's method tells its nodes. -/
def NdC (A : Nat → Prop) (W : World) (v : Value) (ns : List Nod) : Prop :=
  ∃ (T : TypeId) (x : Value) (K : Nat), v = .iface T x ∧ NdT T x K ∧ ∀ w, Below W.heap.size W w → Calls Tryz.prog K #[x] w (NdsP A W ns w)
theorem own_news {w : World} {base : Nat} {e : TypeId} {sz n c : Nat} {a : Option Addr} {xs : List Value} (h : w.ownsRow base e sz (.slice a n c) n xs) (hn : 0 < n) :
    ∃ g, a = some ⟨g, 0, none⟩ ∧ g < w.heap.size ∧ ∀ j u, xs[j]? = some u → w.cell? ((⟨g, 0, none⟩ : Addr).add j) = some u := by
  rcases h.2 with ⟨e1, _⟩ | ⟨g, cap, cur, e1, h1, hg, h2, _, h3, h4⟩
  · injection e1 with _ e2 _; omega
  · injection e1 with e2 _ e3
    subst e2
    refine ⟨g, rfl, (Array.getElem?_eq_some_iff.1 hg).1, fun j u hj => ?_⟩
    have e5 : (⟨g, 0, none⟩ : Addr).add j = ⟨g, j, none⟩ := by
      unfold Addr.add; split
      · rename_i h0; subst h0; rfl
      · simp
    rw [e5]
    rw [← h4, List.getElem?_take] at hj
    split at hj
    · simp only [World.cell?, hg]
      simpa using hj
    · cases hj
theorem own7_go {w w' : World} {base : Nat} {v : Value} {n : Nat} {xs : List Value} (h : w.ownsRow base 35 7 v n xs) (hB : Below w.heap.size w w') : w'.ownsRow base 35 7 v n xs := by
  obtain ⟨h0, h⟩ := h
  refine ⟨h0, ?_⟩
  rcases h with h | ⟨g, cap, cur, e, h1, hg, h2⟩
  · exact .inl h
  · exact .inr ⟨g, cap, cur, e, h1, (hB.block g (Array.getElem?_eq_some_iff.1 hg).1).trans hg, h2⟩
theorem RowX.at {P : Value → List Nod → Prop} {A : Nat → Prop} {w : World} {a : Option Addr} {nss : List (List Nod)} (h : RowX P A w a nss) {j : Nat} (hj : j < nss.length) : ∃ g off, a = some ⟨g, off, none⟩ ∧ g < w.heap.size ∧ A g ∧ ∀ j, j < nss.length → ∃ v, w.cell? ⟨g, off + j, none⟩ = some v ∧ P v (nss.getD j []) := by
  rcases h with h | h
  · rw [h] at hj; simp at hj
  · exact h
theorem take_flat (nss : List (List Nod)) {j : Nat} (h : j < nss.length) : (nss.take (j + 1)).flatten = (nss.take j).flatten ++ nss.getD j [] := by
  rw [List.take_succ_eq_append_getElem h, List.flatten_append, List.getD_eq_getElem?_getD, List.getElem?_eq_getElem h]
  simp
theorem take_le (nss : List (List Nod)) (j : Nat) : (nss.take j).flatten.length ≤ nss.flatten.length := by
  have h : (nss.take j ++ nss.drop j).flatten.length = nss.flatten.length := by rw [List.take_append_drop]
  rw [List.flatten_append, List.length_append] at h; omega
set_option maxRecDepth 100000 in
set_option maxHeartbeats 8000000 in
theorem list_any (f : Nat) (A : Nat → Prop) (w : World) (hP : ∀ v ns, PartM A w f v ns → ns.length ≤ 1000 → ns ≠ [] ∧ NdC A w v ns) (own : Nod) (u5 : Option Addr) (c5 : Nat) (hN : NumX A w u5 own.nums) (a : Option Addr) (n c : Nat) (nss : List (List Nod)) (A0 : Nat → Prop) (hn : nss.length = n) (hn1 : n ≤ 1000) (hl : nss.flatten.length < 1000) (wk : World) (hk : Below w.heap.size w wk) (hI : RowX (PartM A w f) A0 wk a nss) :
    Calls Tryz.prog 206 #[.agg #[.int .i64 own.op, .int .i64 own.ac.op, .int .i64 own.ac.f, .int .i64 own.ac.g, .int .i64 own.n, .slice u5 own.nums.length c5, .string ⟨own.text.toArray⟩], .slice a n c] wk (NdsP A w (own :: nss.flatten) wk) := by
  obtain ⟨i0, hi, hz0, hz1, hz2⟩ := info_parts Tryz.infoNod
  obtain ⟨W1, hW1⟩ : ∃ W, W = (wk.alloc (.cells #[.int .i64 own.op, .int .i64 own.ac.op, .int .i64 own.ac.f, .int .i64 own.ac.g, .int .i64 own.n, .slice u5 own.nums.length c5, .string ⟨own.text.toArray⟩] 35)).alloc (.cells #[.int .i64 own.op, .int .i64 own.ac.op, .int .i64 own.ac.f, .int .i64 own.ac.g, .int .i64 own.n, .slice u5 own.nums.length c5, .string ⟨own.text.toArray⟩] 35) := ⟨_, rfl⟩
  have HB1 : Hid (Below wk.heap.size wk W1) := by rw [hW1]; exact ((Below.refl _ wk).alloc (Nat.le_refl _) _).alloc (by simp) _
  have HN0 : Hid (NumV A w (own, .slice u5 own.nums.length c5)) := ⟨u5, c5, rfl, hN⟩
  have HO1 : Hid (W1.ownsRow wk.heap.size 35 7 (.slice (some ⟨wk.heap.size + 1, 0, none⟩) 1 1) 1 (cl7 [(own, .slice u5 own.nums.length c5)])) := by
    rw [hW1]
    refine ⟨rfl, .inr ⟨wk.heap.size + 1, 1, #[.int .i64 own.op, .int .i64 own.ac.op, .int .i64 own.ac.f, .int .i64 own.ac.g, .int .i64 own.n, .slice u5 own.nums.length c5, .string ⟨own.text.toArray⟩], rfl, by omega, ?_, by omega, by decide, rfl, rfl⟩⟩
    have := World.alloc_heap_new (wk.alloc (.cells #[.int .i64 own.op, .int .i64 own.ac.op, .int .i64 own.ac.f, .int .i64 own.ac.g, .int .i64 own.n, .slice u5 own.nums.length c5, .string ⟨own.text.toArray⟩] 35)) (.cells #[.int .i64 own.op, .int .i64 own.ac.op, .int .i64 own.ac.f, .int .i64 own.ac.g, .int .i64 own.n, .slice u5 own.nums.length c5, .string ⟨own.text.toArray⟩] 35)
    rw [World.size_alloc] at this
    exact this
  have HK : Hid (Below w.heap.size w wk ∧ nss.flatten.length < 1000 ∧ RowX (PartM A w f) A0 wk a nss ∧ nss.length = n ∧ ∀ v ns, PartM A w f v ns → ns.length ≤ 1000 → ns ≠ [] ∧ NdC A w v ns) := ⟨hk, hl, hI, hn, hP⟩
  clear hN hP hk hl hI hn
  go_enter Tryz.func206, Tryz.ntmps206
  go_wp2_with fail
  rw [← hW1]
  clear hW1
  go_loopw [5, 12] (fun v5 i wr => ∃ (j m : Nat) (ga : Option Addr) (gc : Nat) (bs : List NdA), i = .int .i64 j ∧ v5 = .slice ga m gc ∧ Hid (j ≤ n ∧ m < 1001 ∧ bs.map Prod.fst = own :: (nss.take j).flatten ∧ NdR A w wr wk.heap.size (.slice ga m gc) m bs) ∧ Hid (Below wk.heap.size wk wr)) (fun _ i _ => n - (RowKit.intOf i).toNat)
  case atStart => exact ⟨0, 1, _, 1, [(own, .slice u5 own.nums.length c5)], rfl, rfl, ⟨Nat.zero_le _, by omega, by simp, rfl, HO1.out, fun b hb => by rw [List.mem_singleton.1 hb]; exact HN0.out⟩, HB1⟩
  case round =>
    obtain ⟨j, m, ga, gc, bs, rfl, rfl, HI, HB⟩ := hrel
    by_cases hlt : j < n
    · obtain ⟨g, off, rfl, hg, _, hc⟩ := HK.out.2.2.1.at (j := j) (by rw [HK.out.2.2.2.1]; exact hlt)
      obtain ⟨v, hcv, hPv⟩ := hc j (by rw [HK.out.2.2.2.1]; exact hlt)
      have hlen : (nss.getD j []).length ≤ nss.flatten.length ∧ m + (nss.getD j []).length < 1001 := by
        have h1 := take_flat nss (j := j) (by rw [HK.out.2.2.2.1]; exact hlt)
        have h2 := take_le nss (j + 1)
        have h3 := congrArg List.length HI.out.2.2.1
        have h4 := HI.out.2.2.2.1
        rw [h1, List.length_append] at h2
        rw [List.length_map, List.length_cons] at h3
        have := HK.out.2.1
        omega
      obtain ⟨hne, T, x, K, rfl, hT, hC⟩ := HK.out.2.2.2.2 v _ hPv (by have := HK.out.2.1; omega)
      have hm := hT.1
      have hE := hT.2
      have hcw : wr.cell? ⟨g, off + j, none⟩ = some (.iface T x) := (HB.out.cell (p := ⟨g, _, none⟩) hg).trans hcv
      have HNE : Hid (0 < (nss.getD j []).length) := List.length_pos_iff.2 hne
      have HF : Hid ((nss.take (j + 1)).flatten = (nss.take j).flatten ++ nss.getD j []) := take_flat nss (by rw [HK.out.2.2.2.1]; exact hlt)
      have HC : Hid (∀ w', Below w.heap.size w w' → Calls Tryz.prog K #[x] w' (NdsP A w (nss.getD j []) w')) := hC
      clear hc hcv hPv hT hne hC
      generalize nss.getD j [] = ns at *
      go_wp2_with fail
      refine (HC.out wr (HK.out.1.trans (HB.out.mono HK.out.1.size))).mono ?_
      rintro e w2 ⟨a2, c2, bs2, rfl, hmap, hR2, hB2⟩
      obtain ⟨g2, rfl, hg2, hnews⟩ := own_news hR2.2.1 HNE.out
      have HO2 : Hid (w2.ownsRow wk.heap.size 35 7 (.slice ga m gc) m (cl7 bs)) := own7_go HI.out.2.2.2.2.1 hB2
      have HB2 : Hid (Below wk.heap.size wk w2) := HB.out.trans (hB2.mono HB.out.size)
      have HM : Hid (bs2.map Prod.fst = ns ∧ (∀ b ∈ bs2, NumV A w b) ∧ (cl7 bs2).length = ns.length * 7) := ⟨hmap, hR2.2.2, by rw [cl7_length, hR2.1]⟩
      have hone : ∀ u ∈ cl7 bs2, u.oneCell' = true := cl7_one HM.out.2.1
      have hl7 : (cl7 bs2).length = ns.length * 7 := HM.out.2.2
      have hbw : wk.heap.size ≤ w2.heap.size := HB2.out.size
      have hpos : 0 < ns.length := HNE.out
      clear hmap hR2 hB2
      go_wp2_with (at_builtin; refine wpList_append_lies w2 rfl _ _ 23 rfl wk.heap.size 35 i0 _ 7 80 Tryz.underlying23 hi hz0 hz1 hz2 rfl (by decide) (.slice ga m gc) m (cl7 bs) rfl HO2.out ⟨g2, 0, none⟩ ns.length c2 (cl7 bs2) rfl hl7 hnews hone hpos (by unfold maxLen; omega) (by omega) hbw w2.heap.size rfl ?_; intro g3 gc3 w3 hO3 hg3 hgb3 hl3)
      refine ⟨⟨j + 1, m + ns.length, some ⟨g3, 0, none⟩, gc3, bs ++ bs2, rfl, rfl, ⟨hlt, hlen.2, ?_, ?_, ?_, ?_⟩, HB2.out.grown hg3 hbw (fun k hk => (own_lo HO2.out k hk).1)⟩, ?_⟩
      · rw [List.map_append, HI.out.2.2.1, HM.out.1, HF.out]; rfl
      · rw [List.length_append, HI.out.2.2.2.1]
        have := congrArg List.length HM.out.1
        rw [List.length_map] at this; omega
      · rw [cl7_app]; exact hO3
      · intro b hb
        rcases List.mem_append.1 hb with h | h
        · exact HI.out.2.2.2.2.2 b h
        · exact HM.out.2.1 b h
      · simp [RowKit.intOf]; omega
    · have hjn : j = n := by have := HI.out.1; omega
      have HL : Hid (m = (own :: nss.flatten).length ∧ bs.map Prod.fst = own :: nss.flatten) := by
        have h1 := HI.out.2.2.1
        rw [hjn, ← HK.out.2.2.2.1, List.take_length] at h1
        refine ⟨?_, h1⟩
        rw [← h1, List.length_map, HI.out.2.2.2.1]
      have hR := HI.out.2.2.2
      have HR : Hid (NdR A w wr wk.heap.size (.slice ga m gc) m bs) := hR
      clear hR
      go_wp2_with fail
      go_ret
      refine ⟨ga, gc, bs, ret_slice18 HL.out.1, HL.out.2, ?_, HB.out⟩
      rw [← HL.out.1]; exact HR.out
end Go.Proofs.YtgjgbgllhbdodaaGreatDoor
