/- How often states change, and how long one lasts: both sides. No statement is proved here. -/
import Derived.Test.YtmcfnkfcklcpnabCntS
namespace Go.Proofs.Ytmcfnkfcklcpnab
open Go Go.RowKit
theorem chg_step (xs : List Int) (j : Nat) : chgN xs (j + 1 + 1) = chgN xs (j + 1) + (bif decide (xs.getD (j + 1) 0 = xs.getD j 0) then 0 else 1) := by
  show chgN xs (j + 1) + (bif decide (j + 1 = 0) then 0 else _) = _
  rw [decide_eq_false (by omega)]; rfl
set_option maxHeartbeats 8000000 in
theorem i_ChangesIn (A : Option Addr) (cap : Nat) (xs : List Int) (w : World) (h : FlI w A xs) (hn : xs.length ≤ 1048576) (hwf : ∀ k, k < xs.length → (Lit.int .i64 (xs.getD k 0)).wf = true) :
    Calls Try.prog 34 #[.slice A xs.length cap] w fun e w' => e = .returned (.tuple #[.int .i64 (chgR xs), .bool (stsO xs)]) ∧ Below w.heap.size w w' := by
  have HF := Lib.hid h; clear h
  cases ho : stsO xs
  · have HO := Lib.hid ho; clear ho
    go_enter Try.func34, Try.ntmps34
    go_wp2_with fail
    refine (i_areStates A cap xs _ HF.out hn hwf).mono ?_
    rintro e w1 ⟨rfl, b1⟩
    have B1 : Hid (Below w.heap.size w w1) := Lib.hid b1
    clear b1
    rw [HO.out]
    go_wp2
    refine bodyPost_ret (v := .tuple #[.int .i64 0, .bool false]) (by simp [results, Try.results34, go_sem]) rfl ⟨by unfold chgR; rw [HO.out]; rfl, B1.out⟩
  · have HO := Lib.hid ho; clear ho
    have h128 := stsO_len HO.out
    go_enter Try.func34, Try.ntmps34
    go_wp2_with fail
    refine (i_areStates A cap xs _ HF.out hn hwf).mono ?_
    rintro e w1 ⟨rfl, b1⟩
    have B1 : Hid (Below w.heap.size w w1) := Lib.hid b1
    clear b1
    rw [HO.out]
    go_wp2
    go_loopw [4, 5] (fun c i wr => ∃ k : Nat, 1 ≤ k ∧ (k ≤ xs.length ∨ k = 1) ∧ i = .int .i64 k ∧ c = .int .i64 (chgN xs k : Int) ∧ Hid (Below w.heap.size w wr)) (fun _ i _ => xs.length + 1 - (intOf i).toNat)
    case atStart => exact ⟨1, Nat.le_refl _, .inr rfl, rfl, by unfold chgN chgN; rfl, B1⟩
    case round =>
      obtain ⟨k, hk1, hk, rfl, rfl, hB⟩ := hrel
      by_cases hlt : k < xs.length
      · have hF := HF.out.below hB.out
        obtain ⟨b, off, rfl, hb, hc⟩ := hF.at_ hlt
        obtain ⟨b', off', e', hb', hc'⟩ := hF.at_ (show k - 1 < xs.length by omega)
        simp only [Option.some.injEq, Addr.mk.injEq] at e'
        obtain ⟨rfl, rfl, -⟩ := e'
        obtain ⟨j, rfl⟩ : ∃ j, k = j + 1 := ⟨k - 1, by omega⟩
        simp only [Nat.add_sub_cancel] at hc'
        have hle := chg_le xs (j + 1)
        have HS : Hid (chgN xs (j + 1 + 1) = chgN xs (j + 1) + (bif decide (xs.getD (j + 1) 0 = xs.getD j 0) then 0 else 1)) := Lib.hid (chg_step xs j)
        clear hb hb' hF
        generalize chgN xs (j + 1) = m at HS hle
        generalize xs.getD (j + 1) 0 = x at hc HS
        generalize xs.getD j 0 = y at hc' HS
        cases q : (x != y)
        · have hm : chgN xs (j + 1 + 1) = m := by rw [HS.out, decide_eq_true (by simpa using q)]; rfl
          have HM := Lib.hid hm; clear hm
          go_wp2_with fail
          go_quiet (fail)
          go_wp2
          go_roundw
          case rel => exact ⟨j + 1 + 1, by omega, by omega, by go_num, by rw [HM.out], by first | exact Lib.hid (below_draws hB.out _) | exact Lib.hid (below_draws (below_draws hB.out _) _) | exact hB⟩
          case measure => simp [intOf]; omega
        · have hm : chgN xs (j + 1 + 1) = m + 1 := by rw [HS.out, decide_eq_false (by simpa using q)]; rfl
          have HM := Lib.hid hm; clear hm
          go_wp2_with fail
          go_quiet (fail)
          go_wp2
          go_roundw
          case rel => exact ⟨j + 1 + 1, by omega, by omega, by go_num, by rw [HM.out]; go_num, by first | exact Lib.hid (below_draws hB.out _) | exact Lib.hid (below_draws (below_draws hB.out _) _) | exact hB⟩
          case measure => simp [intOf]; omega
      · have hR : Hid (chgR xs = (chgN xs k : Int)) := Lib.hid (by
          unfold chgR
          rw [HO.out]
          rcases hk with hk | hk
          · rw [show k = xs.length by omega]; rfl
          · subst hk
            have : xs.length = 0 ∨ xs.length = 1 := by omega
            rcases this with e | e <;> rw [e] <;> rfl)
        go_wp2
        refine bodyPost_ret (v := .tuple #[.int .i64 (chgN xs k : Int), .bool true]) (by simp [results, Try.results34, go_sem]) rfl ⟨by rw [hR.out], hB.out⟩
set_option maxHeartbeats 8000000 in
theorem s_ChangesIn (A : Option Addr) (cap : Nat) (xs : List Int) (w : World) (h : FlI w A xs) (hn : xs.length ≤ 1048576) :
    Calls Try.prog 33 #[.slice A xs.length cap] w fun e w' => e = .returned (.tuple #[.int .i64 (chgR xs), .bool (stsO xs)]) ∧ Below w.heap.size w w' := by
  have HF := Lib.hid h; clear h
  cases ho : stsO xs
  · have HO := Lib.hid ho; clear ho
    go_enter Try.func33, Try.ntmps33
    go_wp2_with fail
    refine (s_l05States A cap xs _ HF.out hn).mono ?_
    rintro e w1 ⟨n, rfl, hw⟩
    have B1 : Hid (Below w.heap.size w w1) := Lib.hid (by rw [hw]; exact below_draws (Below.refl _ _) _)
    clear hw
    rw [HO.out]
    go_wp2
    refine bodyPost_ret (v := .tuple #[.int .i64 0, .bool false]) (by simp [results, Try.results33, go_sem]) rfl ⟨by unfold chgR; rw [HO.out]; rfl, B1.out⟩
  · have HO := Lib.hid ho; clear ho
    have h128 := stsO_len HO.out
    go_enter Try.func33, Try.ntmps33
    go_wp2_with fail
    refine (s_l05States A cap xs _ HF.out hn).mono ?_
    rintro e w1 ⟨n, rfl, hw⟩
    have B1 : Hid (Below w.heap.size w w1) := Lib.hid (by rw [hw]; exact below_draws (Below.refl _ _) _)
    clear hw
    rw [HO.out]
    go_wp2
    go_loopw [4, 5] (fun c i wr => ∃ k : Nat, 1 ≤ k ∧ (k ≤ xs.length ∨ k = 1) ∧ i = .int .i64 k ∧ c = .int .i64 (chgN xs k : Int) ∧ Hid (Below w.heap.size w wr)) (fun _ i _ => xs.length + 1 - (intOf i).toNat)
    case atStart => exact ⟨1, Nat.le_refl _, .inr rfl, rfl, by unfold chgN chgN; rfl, B1⟩
    case round =>
      obtain ⟨k, hk1, hk, rfl, rfl, hB⟩ := hrel
      by_cases hlt : k < xs.length
      · have hF := HF.out.below hB.out
        obtain ⟨b, off, rfl, hb, hc⟩ := hF.at_ hlt
        obtain ⟨b', off', e', hb', hc'⟩ := hF.at_ (show k - 1 < xs.length by omega)
        simp only [Option.some.injEq, Addr.mk.injEq] at e'
        obtain ⟨rfl, rfl, -⟩ := e'
        obtain ⟨j, rfl⟩ : ∃ j, k = j + 1 := ⟨k - 1, by omega⟩
        simp only [Nat.add_sub_cancel] at hc'
        have hle := chg_le xs (j + 1)
        have HS : Hid (chgN xs (j + 1 + 1) = chgN xs (j + 1) + (bif decide (xs.getD (j + 1) 0 = xs.getD j 0) then 0 else 1)) := Lib.hid (chg_step xs j)
        clear hb hb' hF
        generalize chgN xs (j + 1) = m at HS hle
        generalize xs.getD (j + 1) 0 = x at hc HS
        generalize xs.getD j 0 = y at hc' HS
        cases q : (x != y)
        · have hm : chgN xs (j + 1 + 1) = m := by rw [HS.out, decide_eq_true (by simpa using q)]; rfl
          have HM := Lib.hid hm; clear hm
          go_wp2_with fail
          go_quiet (fail)
          go_wp2
          go_roundw
          case rel => exact ⟨j + 1 + 1, by omega, by omega, by go_num, by rw [HM.out], by first | exact Lib.hid (below_draws hB.out _) | exact Lib.hid (below_draws (below_draws hB.out _) _) | exact hB⟩
          case measure => simp [intOf]; omega
        · have hm : chgN xs (j + 1 + 1) = m + 1 := by rw [HS.out, decide_eq_false (by simpa using q)]; rfl
          have HM := Lib.hid hm; clear hm
          go_wp2_with fail
          go_quiet (fail)
          go_wp2
          go_roundw
          case rel => exact ⟨j + 1 + 1, by omega, by omega, by go_num, by rw [HM.out]; go_num, by first | exact Lib.hid (below_draws hB.out _) | exact Lib.hid (below_draws (below_draws hB.out _) _) | exact hB⟩
          case measure => simp [intOf]; omega
      · have hR : Hid (chgR xs = (chgN xs k : Int)) := Lib.hid (by
          unfold chgR
          rw [HO.out]
          rcases hk with hk | hk
          · rw [show k = xs.length by omega]; rfl
          · subst hk
            have : xs.length = 0 ∨ xs.length = 1 := by omega
            rcases this with e | e <;> rw [e] <;> rfl)
        go_wp2
        refine bodyPost_ret (v := .tuple #[.int .i64 (chgN xs k : Int), .bool true]) (by simp [results, Try.results33, go_sem]) rfl ⟨by rw [hR.out], hB.out⟩
theorem s_l00Max (a b : Int) (w : World) :
    Calls Try.prog 81 #[.int .i64 a, .int .i64 b] w fun e w' => e = .returned (.int .i64 (bif decide (a < b) then b else a)) ∧ w' = w := by
  by_cases h : b < a
  · have h2 : ¬ a < b := by omega
    go_enter Try.func81, Try.ntmps81
    go_wp2
    go_ret
    exact ⟨by first | rfl | (rw [show decide (a < b) = false from decide_eq_false (by omega)]; rfl), rfl⟩
  · by_cases h2 : a < b
    · go_enter Try.func81, Try.ntmps81
      go_wp2
      go_ret
      exact ⟨by first | rfl | (rw [show decide (a < b) = true from decide_eq_true (by omega)]; rfl), rfl⟩
    · have e : a = b := by omega
      subst e
      go_enter Try.func81, Try.ntmps81
      go_wp2
      go_ret
      exact ⟨by first | rfl | (rw [show decide (a < a) = false from decide_eq_false (by omega)]; rfl), rfl⟩
set_option maxHeartbeats 8000000 in
theorem i_LongestIn (A : Option Addr) (cap : Nat) (xs : List Int) (s : Int) (w : World) (h : FlI w A xs) (hn : xs.length ≤ 1048576) (hwf : ∀ k, k < xs.length → (Lit.int .i64 (xs.getD k 0)).wf = true) :
    Calls Try.prog 36 #[.slice A xs.length cap, .int .i64 s] w fun e w' => e = .returned (.tuple #[.int .i64 (lngR xs s), .bool (lngO xs s)]) ∧ Below w.heap.size w w' := by
  have HF := Lib.hid h; clear h
  cases ho : stsO xs
  · have HO := Lib.hid ho; clear ho
    go_enter Try.func36, Try.ntmps36
    go_wp2_with fail
    refine (i_areStates A cap xs _ HF.out hn hwf).mono ?_
    rintro e w1 ⟨rfl, b1⟩
    have B1 : Hid (Below w.heap.size w w1) := Lib.hid b1
    clear b1
    rw [HO.out]
    go_wp2
    refine bodyPost_ret (v := .tuple #[.int .i64 0, .bool false]) (by simp [results, Try.results36, go_sem]) rfl ⟨by unfold lngR lngO; rw [HO.out]; rfl, B1.out⟩
  · have HO := Lib.hid ho; clear ho
    have h128 := stsO_len HO.out
    cases hs : stateV s
    · have HS := Lib.hid hs; clear hs
      go_enter Try.func36, Try.ntmps36
      go_wp2_with fail
      refine (i_areStates A cap xs _ HF.out hn hwf).mono ?_
      rintro e w1 ⟨rfl, b1⟩
      have B1 : Hid (Below w.heap.size w w1) := Lib.hid b1
      clear b1
      rw [HO.out]
      go_wp2_with fail
      refine (i_isState _ _).mono ?_
      rintro e w' ⟨rfl, rfl⟩
      rw [HS.out]
      go_wp2
      refine bodyPost_ret (v := .tuple #[.int .i64 0, .bool false]) (by simp [results, Try.results36, go_sem]) rfl ⟨by unfold lngR lngO; rw [HO.out, HS.out]; rfl, B1.out⟩
    · have HS := Lib.hid hs; clear hs
      have HR : Hid (lngR xs s = (mostN xs s xs.length : Int)) := Lib.hid (by unfold lngR lngO; rw [HO.out, HS.out]; rfl)
      have HQ : Hid (lngO xs s = true) := Lib.hid (by unfold lngO; rw [HO.out, HS.out]; rfl)
      go_enter Try.func36, Try.ntmps36
      go_wp2_with fail
      refine (i_areStates A cap xs _ HF.out hn hwf).mono ?_
      rintro e w1 ⟨rfl, b1⟩
      have B1 : Hid (Below w.heap.size w w1) := Lib.hid b1
      clear b1
      rw [HO.out]
      go_wp2_with fail
      refine (i_isState _ _).mono ?_
      rintro e w' ⟨rfl, rfl⟩
      rw [HS.out]
      go_wp2
      go_loopw [6, 7, 20] (fun c m i wr => ∃ k : Nat, k ≤ xs.length ∧ i = .int .i64 k ∧ c = .int .i64 (runN xs s k : Int) ∧ m = .int .i64 (mostN xs s k : Int) ∧ Hid (Below w.heap.size w wr)) (fun _ _ i _ => xs.length - (intOf i).toNat)
      case atStart => exact ⟨0, Nat.zero_le _, rfl, rfl, rfl, B1⟩
      case round =>
        obtain ⟨k, hk, rfl, rfl, rfl, hB⟩ := hrel
        by_cases hlt : k < xs.length
        · have hF := HF.out.below hB.out
          obtain ⟨b, off, rfl, hb, hc⟩ := hF.at_ hlt
          have hr := run_le xs s k
          have hm := most_le xs s k
          have E1 : Hid (runN xs s (k + 1) = bif decide (xs.getD k 0 = s) then runN xs s k + 1 else 0) := rfl
          have E2 : Hid (mostN xs s (k + 1) = bif decide (mostN xs s k < runN xs s (k + 1)) then runN xs s (k + 1) else mostN xs s k) := rfl
          clear hb hF
          generalize runN xs s k = r at E1 hr
          generalize mostN xs s k = m at E2 hm
          generalize xs.getD k 0 = x at hc E1
          by_cases hx : x = s
          · have hq : (x != s) = false := by simpa using hx
            have R1 : Hid (runN xs s (k + 1) = r + 1) := Lib.hid (by rw [E1.out, decide_eq_true hx]; rfl)
            clear hx
            by_cases hg : m < r + 1
            · have M1 : Hid (mostN xs s (k + 1) = r + 1) := Lib.hid (by rw [E2.out, R1.out, decide_eq_true hg]; rfl)
              go_wp2
              go_roundw
              case rel => exact ⟨k + 1, by omega, by go_num, by rw [R1.out]; go_num, by rw [M1.out] <;> first | go_num | (congr 1; omega), hB⟩
              case measure => simp [intOf]; omega
            · have M1 : Hid (mostN xs s (k + 1) = m) := Lib.hid (by rw [E2.out, R1.out, decide_eq_false hg]; rfl)
              go_wp2
              go_roundw
              case rel => exact ⟨k + 1, by omega, by go_num, by rw [R1.out]; go_num, by rw [M1.out] <;> first | go_num | (congr 1; omega), hB⟩
              case measure => simp [intOf]; omega
          · have hq : (x != s) = true := by simpa using hx
            have R1 : Hid (runN xs s (k + 1) = 0) := Lib.hid (by rw [E1.out, decide_eq_false hx]; rfl)
            have M1 : Hid (mostN xs s (k + 1) = m) := Lib.hid (by rw [E2.out, R1.out, decide_eq_false (by omega)]; rfl)
            clear hx
            go_wp2
            go_roundw
            case rel => exact ⟨k + 1, by omega, by go_num, by rw [R1.out] <;> rfl, by rw [M1.out] <;> first | go_num | (congr 1; omega), hB⟩
            case measure => simp [intOf]; omega
        · have hkk : k = xs.length := by omega
          subst hkk
          go_wp2
          refine bodyPost_ret (v := .tuple #[.int .i64 (mostN xs s xs.length : Int), .bool true]) (by simp [results, Try.results36, go_sem]) rfl ⟨by rw [HR.out, HQ.out], hB.out⟩
set_option maxHeartbeats 8000000 in
theorem s_LongestIn (A : Option Addr) (cap : Nat) (xs : List Int) (s : Int) (w : World) (h : FlI w A xs) (hn : xs.length ≤ 1048576) :
    Calls Try.prog 35 #[.slice A xs.length cap, .int .i64 s] w fun e w' => e = .returned (.tuple #[.int .i64 (lngR xs s), .bool (lngO xs s)]) ∧ Below w.heap.size w w' := by
  have HF := Lib.hid h; clear h
  cases ho : stsO xs
  · have HO := Lib.hid ho; clear ho
    go_enter Try.func35, Try.ntmps35
    go_wp2_with fail
    refine (s_l05States A cap xs _ HF.out hn).mono ?_
    rintro e w1 ⟨n, rfl, hw⟩
    have B1 : Hid (Below w.heap.size w w1) := Lib.hid (by rw [hw]; exact below_draws (Below.refl _ _) _)
    clear hw
    rw [HO.out]
    go_wp2
    refine bodyPost_ret (v := .tuple #[.int .i64 0, .bool false]) (by simp [results, Try.results35, go_sem]) rfl ⟨by unfold lngR lngO; rw [HO.out]; rfl, B1.out⟩
  · have HO := Lib.hid ho; clear ho
    have h128 := stsO_len HO.out
    cases hs : stateV s
    · have HS := Lib.hid hs; clear hs
      go_enter Try.func35, Try.ntmps35
      go_wp2_with fail
      refine (s_l05States A cap xs _ HF.out hn).mono ?_
      rintro e w1 ⟨n, rfl, hw⟩
      have B1 : Hid (Below w.heap.size w w1) := Lib.hid (by rw [hw]; exact below_draws (Below.refl _ _) _)
      clear hw
      rw [HO.out]
      go_wp2_with fail
      refine (s_l00In _ _ _ _).mono ?_
      rintro e w' ⟨rfl, rfl⟩
      rw [show (decide ((0 : Int) ≤ s) && decide (s ≤ 4)) = stateV s from rfl]
      rw [HS.out]
      go_wp2
      refine bodyPost_ret (v := .tuple #[.int .i64 0, .bool false]) (by simp [results, Try.results35, go_sem]) rfl ⟨by unfold lngR lngO; rw [HO.out, HS.out]; rfl, B1.out⟩
    · have HS := Lib.hid hs; clear hs
      have HR : Hid (lngR xs s = (mostN xs s xs.length : Int)) := Lib.hid (by unfold lngR lngO; rw [HO.out, HS.out]; rfl)
      have HQ : Hid (lngO xs s = true) := Lib.hid (by unfold lngO; rw [HO.out, HS.out]; rfl)
      go_enter Try.func35, Try.ntmps35
      go_wp2_with fail
      refine (s_l05States A cap xs _ HF.out hn).mono ?_
      rintro e w1 ⟨n, rfl, hw⟩
      have B1 : Hid (Below w.heap.size w w1) := Lib.hid (by rw [hw]; exact below_draws (Below.refl _ _) _)
      clear hw
      rw [HO.out]
      go_wp2_with fail
      refine (s_l00In _ _ _ _).mono ?_
      rintro e w' ⟨rfl, rfl⟩
      rw [show (decide ((0 : Int) ≤ s) && decide (s ≤ 4)) = stateV s from rfl]
      rw [HS.out]
      go_wp2
      go_loopw [7, 6, 19] (fun c m i wr => ∃ k : Nat, k ≤ xs.length ∧ i = .int .i64 k ∧ c = .int .i64 (runN xs s k : Int) ∧ m = .int .i64 (mostN xs s k : Int) ∧ Hid (Below w.heap.size w wr)) (fun _ _ i _ => xs.length - (intOf i).toNat)
      case atStart => exact ⟨0, Nat.zero_le _, rfl, rfl, rfl, B1⟩
      case round =>
        obtain ⟨k, hk, rfl, rfl, rfl, hB⟩ := hrel
        by_cases hlt : k < xs.length
        · have hF := HF.out.below hB.out
          obtain ⟨b, off, rfl, hb, hc⟩ := hF.at_ hlt
          have hr := run_le xs s k
          have hm := most_le xs s k
          have E1 : Hid (runN xs s (k + 1) = bif decide (xs.getD k 0 = s) then runN xs s k + 1 else 0) := rfl
          have E2 : Hid (mostN xs s (k + 1) = bif decide (mostN xs s k < runN xs s (k + 1)) then runN xs s (k + 1) else mostN xs s k) := rfl
          clear hb hF
          generalize runN xs s k = r at E1 hr
          generalize mostN xs s k = m at E2 hm
          generalize xs.getD k 0 = x at hc E1
          by_cases hx : x = s
          · have hq : (x == s) = true := by simpa using hx
            have R1 : Hid (runN xs s (k + 1) = r + 1) := Lib.hid (by rw [E1.out, decide_eq_true hx]; rfl)
            clear hx
            go_wp2_with fail
            refine (s_l00Max _ _ _).mono ?_
            rintro e w' ⟨rfl, rfl⟩
            by_cases hg : m < r + 1
            · have M1 : Hid (mostN xs s (k + 1) = r + 1) := Lib.hid (by rw [E2.out, R1.out, decide_eq_true hg]; rfl)
              rw [show decide ((m : Int) < (r : Int) + 1) = true from decide_eq_true (by omega)]
              go_wp2
              go_roundw
              case rel => exact ⟨k + 1, by omega, by go_num, by rw [R1.out]; go_num, by rw [M1.out]; go_num, hB⟩
              case measure => simp [intOf]; omega
            · have M1 : Hid (mostN xs s (k + 1) = m) := Lib.hid (by rw [E2.out, R1.out, decide_eq_false hg]; rfl)
              rw [show decide ((m : Int) < (r : Int) + 1) = false from decide_eq_false (by omega)]
              go_wp2
              go_roundw
              case rel => exact ⟨k + 1, by omega, by go_num, by rw [R1.out]; go_num, by rw [M1.out], hB⟩
              case measure => simp [intOf]; omega
          · have hq : (x == s) = false := by simpa using hx
            have R1 : Hid (runN xs s (k + 1) = 0) := Lib.hid (by rw [E1.out, decide_eq_false hx]; rfl)
            have M1 : Hid (mostN xs s (k + 1) = m) := Lib.hid (by rw [E2.out, R1.out, decide_eq_false (by omega)]; rfl)
            clear hx
            go_wp2_with fail
            refine (s_l00Max _ _ _).mono ?_
            rintro e w' ⟨rfl, rfl⟩
            rw [show decide ((m : Int) < 0) = false from decide_eq_false (by omega)]
            go_wp2
            go_roundw
            case rel => exact ⟨k + 1, by omega, by go_num, by rw [R1.out] <;> rfl, by rw [M1.out], hB⟩
            case measure => simp [intOf]; omega
        · have hkk : k = xs.length := by omega
          subst hkk
          go_wp2
          refine bodyPost_ret (v := .tuple #[.int .i64 (mostN xs s xs.length : Int), .bool true]) (by simp [results, Try.results35, go_sem]) rfl ⟨by rw [HR.out, HQ.out], hB.out⟩
end Go.Proofs.Ytmcfnkfcklcpnab
