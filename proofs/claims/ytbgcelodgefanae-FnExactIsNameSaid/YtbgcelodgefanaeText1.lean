/- Contracts of the functions on texts of chapter 1. No statement is proved here. -/
import Derived.Test.YtbgcelodgefanaeBits
import Derived.LoopTactic
namespace Go.Proofs.Ytbgcelodgefanae
open Go Go.RowKit
/-- the check number of bytes -/
def chk (n : Int) (l : List UInt8) : Int := l.foldl (fun n c => (761 * n + (c.toNat : Int) + 83) % 65003) n
theorem chk_snoc (n : Int) (l : List UInt8) (c : UInt8) : chk n (l ++ [c]) = (761 * chk n l + (c.toNat : Int) + 83) % 65003 := by
  unfold chk; rw [List.foldl_append]; rfl
theorem chk_bd (n : Int) (l : List UInt8) (h0 : 0 ≤ n) (h1 : n ≤ 65002) : 0 ≤ chk n l ∧ chk n l ≤ 65002 := by
  rcases List.eq_nil_or_concat l with rfl | ⟨l, c, rfl⟩
  · exact ⟨h0, h1⟩
  · rw [List.concat_eq_append, chk_snoc]; omega
theorem take_snoc (s : ByteArray) (k : Nat) (h : k < s.size) : s.data.toList.take (k + 1) = s.data.toList.take k ++ [s[k]] := by
  rw [List.take_succ_eq_append_getElem (by simpa using h)]; rfl
theorem ret_int {k : IntKind} {a b : Int} (h : a = b) : Ending.returned (.int k a) = .returned (.int k b) := by rw [h]
/-- a name -/
def nmc (c : UInt8) : Bool := decide (97 ≤ (c.toNat : Int)) && decide ((c.toNat : Int) ≤ 122)
def isNm (l : List UInt8) : Bool := decide (1 ≤ l.length) && decide (l.length ≤ 8) && l.all nmc
theorem all_take_no (l : List UInt8) (p : UInt8 → Bool) (k : Nat) (h : k < l.length) (hp : p (l[k]) = false) : l.all p = false := by
  rw [List.all_eq_false]
  exact ⟨l[k], List.getElem_mem h, by simp [hp]⟩
theorem all_take_snoc (l : List UInt8) (p : UInt8 → Bool) (k : Nat) (h : k < l.length) (hp : p (l[k]) = true) (ha : (l.take k).all p = true) : (l.take (k + 1)).all p = true := by
  rw [List.take_succ_eq_append_getElem h, List.all_append, ha]; simp [hp]
theorem i_IsName (s : ByteArray) (w : World) (hs : s.size ≤ 9223372036854775807) :
    Calls Try.prog 5 #[.string s] w fun e w' => e = .returned (.bool (isNm s.data.toList)) ∧ w' = w := by
  have hl : s.data.toList.length = s.size := by simp
  by_cases h1 : s.size < 1
  · go_enter Try.func5, Try.ntmps5
    go_wp2
    go_ret
    exact ⟨by unfold isNm; rw [hl, decide_eq_false (by omega : ¬ 1 ≤ s.size)]; rfl, rfl⟩
  · by_cases h2 : 8 < s.size
    · go_enter Try.func5, Try.ntmps5
      go_wp2
      go_ret
      exact ⟨by unfold isNm; rw [hl, decide_eq_false (by omega : ¬ s.size ≤ 8)]; simp, rfl⟩
    · have he : isNm s.data.toList = s.data.toList.all nmc := by
        unfold isNm; rw [hl, decide_eq_true (by omega : 1 ≤ s.size), decide_eq_true (by omega : s.size ≤ 8)]; rfl
      have HE := Lib.hid he; clear he hl
      go_enter Try.func5, Try.ntmps5
      go_wp2
      go_loop [14] (fun i => ∃ k : Nat, k ≤ s.size ∧ i = .int .i64 k ∧ (s.data.toList.take k).all nmc = true) (fun i => s.size - (intOf i).toNat)
      case atStart => exact ⟨0, Nat.zero_le _, rfl, rfl⟩
      case round =>
        obtain ⟨k, hk, rfl, hall⟩ := hrel
        have HA := Lib.hid hall; clear hall
        by_cases hlt : k < s.size
        · by_cases c1 : (s[k].toNat : Int) < 97
          · have HN : Hid (nmc s[k] = false) := Lib.hid (by unfold nmc; rw [decide_eq_false (by omega : ¬ 97 ≤ (s[k].toNat : Int))]; rfl)
            go_wp2
            go_ret
            exact ⟨by rw [HE.out, all_take_no _ nmc k (by simpa using hlt) HN.out]; rfl, rfl⟩
          · by_cases c2 : 122 < (s[k].toNat : Int)
            · have HN : Hid (nmc s[k] = false) := Lib.hid (by unfold nmc; rw [decide_eq_false (by omega : ¬ (s[k].toNat : Int) ≤ 122)]; simp)
              go_wp2
              go_ret
              exact ⟨by rw [HE.out, all_take_no _ nmc k (by simpa using hlt) HN.out]; rfl, rfl⟩
            · have HY : Hid (nmc s[k] = true) := Lib.hid (by unfold nmc; rw [decide_eq_true (by omega : 97 ≤ (s[k].toNat : Int)), decide_eq_true (by omega : (s[k].toNat : Int) ≤ 122)]; rfl)
              go_wp2
              go_round
              case rel => exact ⟨k + 1, by omega, by go_num, all_take_snoc _ nmc k (by simpa using hlt) HY.out HA.out⟩
              case measure => simp [intOf]; omega
        · go_wp2
          go_ret
          exact ⟨by rw [HE.out]; rw [List.take_of_length_le (by simp; omega)] at HA; rw [HA.out]; rfl, rfl⟩
theorem s_IsName (s : ByteArray) (w : World) (hs : s.size ≤ 9223372036854775807) :
    Calls Try.prog 4 #[.string s] w fun e w' => e = .returned (.bool (isNm s.data.toList)) ∧ w' = w := by
  go_enter Try.func4, Try.ntmps4
  go_wp2
  go_loop [3] (fun i => ∃ k : Nat, k ≤ s.size ∧ i = .int .i64 k ∧ (s.data.toList.take k).all nmc = true) (fun i => s.size - (intOf i).toNat)
  case atStart => exact ⟨0, Nat.zero_le _, rfl, rfl⟩
  case round =>
    obtain ⟨k, hk, rfl, hall⟩ := hrel
    have HA := Lib.hid hall; clear hall
    by_cases hlt : k < s.size
    · by_cases c1 : (s[k].toNat : Int) < 97
      · have HN : Hid (nmc s[k] = false) := Lib.hid (by unfold nmc; rw [decide_eq_false (by omega : ¬ 97 ≤ (s[k].toNat : Int))]; rfl)
        go_wp2
        go_ret
        exact ⟨by unfold isNm; rw [all_take_no _ nmc k (by simpa using hlt) HN.out]; simp, rfl⟩
      · by_cases c2 : 122 < (s[k].toNat : Int)
        · have HN : Hid (nmc s[k] = false) := Lib.hid (by unfold nmc; rw [decide_eq_false (by omega : ¬ (s[k].toNat : Int) ≤ 122)]; simp)
          go_wp2
          go_ret
          exact ⟨by unfold isNm; rw [all_take_no _ nmc k (by simpa using hlt) HN.out]; simp, rfl⟩
        · have HY : Hid (nmc s[k] = true) := Lib.hid (by unfold nmc; rw [decide_eq_true (by omega : 97 ≤ (s[k].toNat : Int)), decide_eq_true (by omega : (s[k].toNat : Int) ≤ 122)]; rfl)
          go_wp2
          go_round
          case rel => exact ⟨k + 1, by omega, by go_num, all_take_snoc _ nmc k (by simpa using hlt) HY.out HA.out⟩
          case measure => simp [intOf]; omega
    · have HL : Hid (isNm s.data.toList = (decide (1 ≤ (s.size : Int)) && decide ((s.size : Int) ≤ 8))) := Lib.hid (by
        rw [List.take_of_length_le (by simp; omega)] at HA
        unfold isNm; rw [HA.out]; simp; rw [Bool.eq_iff_iff]; simp; omega)
      by_cases c1 : 1 ≤ (s.size : Int)
      · go_wp2
        go_ret
        exact ⟨by rw [HL.out]; simp [c1], rfl⟩
      · go_wp2
        go_ret
        exact ⟨by rw [HL.out, decide_eq_false (by omega : ¬ 1 ≤ (s.size : Int))]; rfl, rfl⟩
theorem law_FnExactIsName (s : ByteArray) (w : World) (hs0 : s.size ≤ maxLen) :
    Calls Try.prog 3 #[.string s] w fun e w' => e = .returned (.bool true) ∧ Grown w w' := by
  have hs : s.size ≤ 9223372036854775807 := hs0
  clear hs0
  by_cases hb : s.size ≤ 1048576
  · go_enter Try.func3, Try.ntmps3
    go_wp2_with fail
    refine (s_IsName s _ hs).mono ?_
    rintro e w' ⟨rfl, rfl⟩
    go_wp2_with fail
    refine (i_IsName s _ hs).mono ?_
    rintro e w' ⟨rfl, rfl⟩
    go_wp2
    go_ret
    exact ⟨by simp, Grown.refl _⟩
  · go_enter Try.func3, Try.ntmps3
    go_wp2
    go_ret
    exact ⟨rfl, Grown.refl _⟩
end Go.Proofs.Ytbgcelodgefanae
