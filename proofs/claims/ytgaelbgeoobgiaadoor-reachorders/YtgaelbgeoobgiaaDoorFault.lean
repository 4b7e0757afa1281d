/-
  The document's answer on a shape: its fault, its cells.
-/
import Derived.Test.YtgaelbgeoobgiaaDoorBase
namespace Go.Proofs.YtgaelbgeoobgiaaDoor
open Go.RowKit
set_option linter.unusedVariables false

theorem prod_take_succ (zs : List Int) (k : Nat) (h : k < zs.length) : prod (zs.take (k + 1)) = prod (zs.take k) * nth zs k := by
  rw [List.take_succ_eq_append_getElem h, ← nth_get zs k h, prod_append]; simp [prod]
theorem prod_take_drop (zs : List Int) (k : Nat) : prod zs = prod (zs.take k) * prod (zs.drop k) := by
  rw [← prod_append, List.take_append_drop]
theorem AllPos.prod {zs : List Int} (h : AllPos zs) : 0 < prod zs := by
  induction zs with
  | nil => simp [Go.Proofs.YtgaelbgeoobgiaaDoor.prod]
  | cons x r ih => exact Int.mul_pos (h x List.mem_cons_self) (ih h.tail)
theorem AllPos.take {zs : List Int} (h : AllPos zs) (k : Nat) : AllPos (zs.take k) := fun y hy => h y (List.mem_of_mem_take hy)
theorem AllPos.drop {zs : List Int} (h : AllPos zs) (k : Nat) : AllPos (zs.drop k) := fun y hy => h y (List.mem_of_mem_drop hy)
/-- The room that is left behind k axes. -/
def room (zs : List Int) (k : Nat) : Int := 4096 / prod (zs.take k)
theorem room_zero (zs : List Int) : room zs 0 = 4096 := by simp [room, prod]
theorem room_succ {zs : List Int} (hp : AllPos zs) {k : Nat} (h : k < zs.length) : room zs (k + 1) = room zs k / nth zs k := by
  unfold room
  rw [prod_take_succ zs k h, Int.ediv_ediv_of_nonneg (Int.le_of_lt (hp.take k).prod)]
theorem room_bd {zs : List Int} (hp : AllPos zs) (k : Nat) : 0 ≤ room zs k ∧ room zs k ≤ 4096 := by
  unfold room
  have h := (hp.take k).prod
  exact ⟨Int.ediv_nonneg (by omega) (by omega), Int.ediv_le_self _ (by omega)⟩
theorem room_none {zs : List Int} (hp : AllPos zs) {k : Nat} (h0 : room zs k = 0) : 4096 < prod zs := by
  have h1 := (hp.take k).prod
  have h2 := (hp.drop k).prod
  have e := prod_take_drop zs k
  have h3 : 4096 < prod (zs.take k) := by
    unfold room at h0
    by_cases hc : 4096 < prod (zs.take k)
    · exact hc
    · have := Int.le_ediv_of_mul_le (a := 1) (b := 4096) h1 (by omega)
      omega
  have h4 : prod (zs.take k) * 1 ≤ prod (zs.take k) * prod (zs.drop k) := Int.mul_le_mul_of_nonneg_left (by omega) (by omega)
  omega
theorem room_some {zs : List Int} (hp : AllPos zs) (h0 : room zs zs.length ≠ 0) : prod zs ≤ 4096 := by
  unfold room at h0
  rw [List.take_length] at h0
  by_cases hc : prod zs ≤ 4096
  · exact hc
  · exact absurd (Int.ediv_eq_zero_of_lt (by omega) (by omega)) h0
/-- Is one of the first k lengths 0? -/
def hasZ (zs : List Int) (k : Nat) : Bool := (zs.take k).any fun x => x == 0
theorem hasZ_succ (zs : List Int) (k : Nat) (h : k < zs.length) : hasZ zs (k + 1) = (hasZ zs k || nth zs k == 0) := by
  unfold hasZ; rw [List.take_succ_eq_append_getElem h, ← nth_get zs k h]; simp
theorem prod_of_zero {zs : List Int} (h : (0 : Int) ∈ zs) : prod zs = 0 := by
  induction zs with
  | nil => cases h
  | cons x r ih =>
    rcases List.mem_cons.1 h with h | h
    · simp [prod, ← h]
    · simp [prod, ih h]
theorem errOf_hasZ {zs : List Int} (hl : ¬ 6 < zs.length) (ha : AllIn zs) (h : hasZ zs zs.length = true) : errOf zs = 0 := by
  unfold hasZ at h
  rw [List.take_length] at h
  obtain ⟨x, hx, e⟩ := List.any_eq_true.1 h
  have : x = 0 := by simpa using e
  subst this
  exact errOf_zero.2 ⟨by omega, ha, by rw [prod_of_zero hx]; omega⟩
theorem allPos_noZ {zs : List Int} (ha : AllIn zs) (h : hasZ zs zs.length = false) : AllPos zs := by
  unfold hasZ at h
  rw [List.take_length] at h
  intro x hx
  have h1 := ha x hx
  have h2 : x ≠ 0 := by
    intro e
    subst e
    have := List.any_eq_false.1 h 0 hx
    simp at this
  omega

set_option maxRecDepth 100000 in
set_option maxHeartbeats 1000000 in
theorem fault_any (a : Option Addr) (cap : Nat) (zs : List Int) (hreach : zs.length ≤ 9223372036854775807) (n₀ : Nat) (w : World) (hI : IsInts n₀ w a zs) :
    Calls Tryd.prog 33 #[.slice a zs.length cap] w fun e w' => e = .returned (.int .i64 (errOf zs)) ∧ w' = w := by
  by_cases hlen : 6 < zs.length
  · have e3 : Hid (errOf zs = 3) := errOf_rank hlen
    go_enter Tryd.func33, Tryd.ntmps33
    go_wp2_with fail
    go_ret
    exact ⟨ret_int e3.out.symm, rfl⟩
  · go_enter Tryd.func33, Tryd.ntmps33
    go_wp2_with fail
    go_loop [3, 4] (fun em i => ∃ k : Nat, k ≤ zs.length ∧ i = .int .i64 k ∧ em = .bool (hasZ zs k) ∧ AllIn (zs.take k)) (fun _ i => zs.length - (intOf i).toNat)
    case atStart => exact ⟨0, Nat.zero_le _, rfl, rfl, by intro x hx; simp at hx⟩
    case round =>
      obtain ⟨k, hk, rfl, rfl, hall⟩ := hrel
      by_cases hlt : k < zs.length
      · obtain ⟨b, off, rfl, hb, hcell⟩ := hI.at hlt
        have hc := hcell k hlt
        clear hcell
        by_cases h1 : nth zs k < 0
        · have e4 : Hid (errOf zs = 4) := errOf_bad hlen (bad_low hlt hall h1) (by decide)
          go_wp2_with fail
          go_ret
          exact ⟨ret_int e4.out.symm, rfl⟩
        · by_cases h2 : 4096 < nth zs k
          · have e7 : Hid (errOf zs = 7) := errOf_bad hlen (bad_high hlt hall h2) (by decide)
            go_wp2_with fail
            go_ret
            exact ⟨ret_int e7.out.symm, rfl⟩
          · have hst := allIn_step hlt hall h1 h2
            have hz := hasZ_succ zs k hlt
            cases h3 : (nth zs k == 0) with
            | true =>
              rw [h3, Bool.or_true] at hz
              have HZ : Hid (hasZ zs (k + 1) = true) := hz
              clear hz
              go_wp2_with fail
              go_round
              case rel => exact ⟨k + 1, by omega, by go_num, by rw [HZ.out], hst⟩
              case measure => simp [intOf]; omega
            | false =>
              rw [h3, Bool.or_false] at hz
              have HZ : Hid (hasZ zs (k + 1) = hasZ zs k) := hz
              clear hz
              go_wp2_with fail
              go_round
              case rel => exact ⟨k + 1, by omega, by go_num, by rw [HZ.out], hst⟩
              case measure => simp [intOf]; omega
      · obtain rfl : k = zs.length := by omega
        rw [List.take_length] at hall
        cases h4 : hasZ zs zs.length with
        | true =>
          have e0 : Hid (errOf zs = 0) := errOf_hasZ hlen hall h4
          clear h4
          go_wp2_with fail
          go_ret
          exact ⟨ret_int e0.out.symm, rfl⟩
        | false =>
          have hpos := allPos_noZ hall h4
          have HP : Hid (AllPos zs) := hpos
          have HA : Hid (AllIn zs) := hall
          clear h4 hpos hall
          go_wp2_with fail
          go_loop [5, 6] (fun r i => ∃ k : Nat, k ≤ zs.length ∧ i = .int .i64 k ∧ r = .int .i64 (room zs k) ∧ room zs k ≠ 0) (fun _ i => zs.length - (intOf i).toNat)
          case atStart => exact ⟨0, Nat.zero_le _, rfl, by rw [room_zero], by rw [room_zero]; decide⟩
          case round =>
            clear hk hlt
            obtain ⟨k, hk, rfl, rfl, hr0⟩ := hrel
            have HR : Hid (room zs k ≠ 0) := hr0
            clear hr0
            have hrb := room_bd HP.out k
            by_cases hlt : k < zs.length
            · obtain ⟨b, off, rfl, hb, hcell⟩ := hI.at hlt
              have hc := hcell k hlt
              clear hcell
              have hx1 : 0 < nth zs k := HP.out _ (nth_mem zs k hlt)
              have hx2 : nth zs k ≤ 4096 := (HA.out _ (nth_mem zs k hlt)).2
              have HS : Hid (room zs (k + 1) = room zs k / nth zs k) := room_succ HP.out hlt
              obtain ⟨hr1, hr2⟩ := hrb
              by_cases h5 : room zs (k + 1) = 0
              · have e7 : Hid (errOf zs = 7) := by
                  have := room_none HP.out h5
                  show _ = _
                  simp [errOf, hlen, (bad_iff zs).2 HA.out, this]
                have h6 : (room zs k / nth zs k == 0) = true := by rw [← HS.out, h5]; rfl
                clear h5
                go_wp2_with fail
                go_ret
                exact ⟨ret_int e7.out.symm, rfl⟩
              · have h6 : (room zs k / nth zs k == 0) = false := by rw [← HS.out]; simp [h5]
                have H5 : Hid (room zs (k + 1) ≠ 0) := h5
                clear h5
                go_wp2_with fail
                go_round
                case rel => exact ⟨k + 1, by omega, by go_num, by rw [HS.out], H5.out⟩
                case measure => simp [intOf]; omega
            · obtain rfl : k = zs.length := by omega
              have e0 : Hid (errOf zs = 0) := errOf_zero.2 ⟨by omega, HA.out, room_some HP.out HR.out⟩
              go_wp2_with fail
              go_ret
              exact ⟨ret_int e0.out.symm, rfl⟩

/-- The product of the first k lengths stays small where no length is 0. -/
theorem prod_take_le {zs : List Int} (hp : AllPos zs) (k : Nat) : 0 < prod (zs.take k) ∧ prod (zs.take k) ≤ prod zs := by
  have h1 := (hp.take k).prod
  have h2 := (hp.drop k).prod
  have e := prod_take_drop zs k
  have h4 : prod (zs.take k) * 1 ≤ prod (zs.take k) * prod (zs.drop k) := Int.mul_le_mul_of_nonneg_left (by omega) (by omega)
  omega
set_option maxRecDepth 100000 in
set_option maxHeartbeats 1000000 in
theorem cells_any (a : Option Addr) (cap : Nat) (zs : List Int) (hreach : zs.length ≤ 9223372036854775807) (he : errOf zs = 0) (n₀ : Nat) (w : World) (hI : IsInts n₀ w a zs) :
    Calls Tryd.prog 34 #[.slice a zs.length cap] w fun e w' => e = .returned (.int .i64 (prod zs)) ∧ w' = w := by
  have HE : Hid (errOf zs = 0) := he
  clear he
  go_enter Tryd.func34, Tryd.ntmps34
  go_wp2_with fail
  go_loop [4] (fun i => ∃ k : Nat, k ≤ zs.length ∧ i = .int .i64 k ∧ hasZ zs k = false) (fun i => zs.length - (intOf i).toNat)
  case atStart => exact ⟨0, Nat.zero_le _, rfl, rfl⟩
  case round =>
    obtain ⟨k, hk, rfl, hz0⟩ := hrel
    have HZ : Hid (hasZ zs k = false) := hz0
    clear hz0
    by_cases hlt : k < zs.length
    · obtain ⟨b, off, rfl, hb, hcell⟩ := hI.at hlt
      have hc := hcell k hlt
      clear hcell
      cases h3 : (nth zs k == 0) with
      | true =>
        have e0 : Hid (prod zs = 0) := prod_of_zero (by have := nth_mem zs k hlt; rwa [eq_of_beq h3] at this)
        go_wp2_with fail
        go_ret
        exact ⟨ret_int e0.out.symm, rfl⟩
      | false =>
        have H1 : Hid (hasZ zs (k + 1) = false) := by show _ = _; rw [hasZ_succ zs k hlt, HZ.out, h3]; rfl
        go_wp2_with fail
        go_round
        case rel => exact ⟨k + 1, by omega, by go_num, H1.out⟩
        case measure => simp [intOf]; omega
    · obtain rfl : k = zs.length := by omega
      have HA : Hid (AllIn zs ∧ prod zs ≤ 4096) := ⟨(errOf_zero.1 HE.out).2.1, (errOf_zero.1 HE.out).2.2⟩
      have HP : Hid (AllPos zs) := allPos_noZ HA.out.1 HZ.out
      go_wp2_with fail
      go_loop [3, 5] (fun r i => ∃ k : Nat, k ≤ zs.length ∧ i = .int .i64 k ∧ r = .int .i64 (prod (zs.take k))) (fun _ i => zs.length - (intOf i).toNat)
      case atStart => exact ⟨0, Nat.zero_le _, rfl, rfl⟩
      case round =>
        clear hk hlt
        obtain ⟨k, hk, rfl, rfl⟩ := hrel
        by_cases hlt : k < zs.length
        · obtain ⟨b, off, rfl, hb, hcell⟩ := hI.at hlt
          have hc := hcell k hlt
          clear hcell
          have hw : wrap64 (prod (zs.take k) * nth zs k) = prod (zs.take (k + 1)) := by
            rw [← prod_take_succ zs k hlt]
            have := prod_take_le HP.out (k + 1)
            have := HA.out.2
            exact wrap64_small (by omega) (by omega)
          have HW : Hid (wrap64 (prod (zs.take k) * nth zs k) = prod (zs.take (k + 1))) := hw
          clear hw
          generalize prod (zs.take k) = P0 at *
          go_wp2_with fail
          go_round
          case rel => exact ⟨k + 1, by omega, by go_num, by rw [← HW.out]⟩
          case measure => simp [intOf]; omega
        · obtain rfl : k = zs.length := by omega
          rw [List.take_length]
          go_wp2_with fail
          go_ret
          exact ⟨rfl, rfl⟩
end Go.Proofs.YtgaelbgeoobgiaaDoor
