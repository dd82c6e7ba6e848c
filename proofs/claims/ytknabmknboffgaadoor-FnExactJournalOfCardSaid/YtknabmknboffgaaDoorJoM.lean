/- The journal of lines: mathematics. No statement is proved here. -/
import Derived.Test.YtknabmknboffgaaDoorDec
import Derived.Test.YtknabmknboffgaaDoorText1
import Derived.Lib.IndexLaws
namespace Go.Proofs.YtknabmknboffgaaDoor
open Go Go.RowKit
def lnK (xs : List ByteArray) (k : Nat) : ByteArray := xs.getD k ⟨#[]⟩
/-- the line of a journal -/
def entS (c : Int) (l : ByteArray) : ByteArray := decS c ++ ⟨#[32]⟩ ++ l ++ ⟨#[10]⟩
def jC (xs : List ByteArray) : Nat → Int
  | 0 => 0
  | k + 1 => chk (jC xs k) (lnK xs k).data.toList
def jT (xs : List ByteArray) : Nat → ByteArray
  | 0 => ⟨#[]⟩
  | k + 1 => jT xs k ++ entS (jC xs (k + 1)) (lnK xs k)
def nlF (l : ByteArray) : Bool := l.data.toList.any (· == 10)
def jB (xs : List ByteArray) : Nat → Bool
  | 0 => false
  | k + 1 => jB xs k || (nlF (lnK xs k) || decide (16000 < (jT xs (k + 1)).size))
def jO (xs : List ByteArray) : Bool := !(jB xs xs.length)
def jS (xs : List ByteArray) : ByteArray := if jO xs then jT xs xs.length else ⟨#[]⟩
/-- lengths alone -/
def tot (xs : List ByteArray) : Nat → Nat
  | 0 => 0
  | k + 1 => tot xs k + ((lnK xs k).size + 3)
def nlB (xs : List ByteArray) : Nat → Bool
  | 0 => false
  | k + 1 => nlB xs k || nlF (lnK xs k)
def szK (xs : List ByteArray) : Nat → Nat
  | 0 => 0
  | k + 1 => szK xs k + (lnK xs k).size
def szT (xs : List ByteArray) : Nat := xs.length + szK xs xs.length
theorem app_size (a b : ByteArray) : (a ++ b).size = a.size + b.size := ByteArray.size_append ..
theorem ent_size (c : Int) (l : ByteArray) : (entS c l).size = (decS c).size + 1 + l.size + 1 := by
  unfold entS
  rw [app_size, app_size, app_size]
  rfl
theorem dec_pos (n : Int) : 1 ≤ (decS n).size := by
  show 1 ≤ (Lib.itoa n).toArray.size
  rw [List.size_toArray]
  unfold Lib.itoa
  split
  · simp
  · rw [Lib.decDigits_length]; exact Lib.nDigits_pos _
theorem jC_bd (xs : List ByteArray) : ∀ k, 0 ≤ jC xs k ∧ jC xs k ≤ 65002
  | 0 => by simp [jC]
  | k + 1 => chk_bd _ _ (jC_bd xs k).1 (jC_bd xs k).2
theorem dec_le {n : Int} (h : 0 ≤ n ∧ n ≤ 65002) : (decS n).size ≤ 21 := itoa_size n (by omega) (by omega)
theorem jT_tot (xs : List ByteArray) : ∀ k, tot xs k ≤ (jT xs k).size
  | 0 => Nat.zero_le _
  | k + 1 => by
    have ih := jT_tot xs k
    have h := dec_pos (jC xs (k + 1))
    show tot xs k + ((lnK xs k).size + 3) ≤ (jT xs k ++ entS (jC xs (k + 1)) (lnK xs k)).size
    rw [app_size, ent_size]
    omega
theorem jT_le (xs : List ByteArray) : ∀ k, (jT xs k).size ≤ szK xs k + 23 * k
  | 0 => Nat.le_refl _
  | k + 1 => by
    have ih := jT_le xs k
    have h := dec_le (jC_bd xs (k + 1))
    show (jT xs k ++ entS (jC xs (k + 1)) (lnK xs k)).size ≤ szK xs k + (lnK xs k).size + 23 * (k + 1)
    rw [app_size, ent_size]
    omega
theorem szK_mono (xs : List ByteArray) {k : Nat} : ∀ n, k ≤ n → szK xs k ≤ szK xs n
  | 0, h => by have : k = 0 := by omega
               subst this; exact Nat.le_refl _
  | n + 1, h => by
    by_cases e : k = n + 1
    · subst e; exact Nat.le_refl _
    · have := szK_mono xs (k := k) n (by omega)
      show szK xs k ≤ szK xs n + (lnK xs n).size
      omega
theorem tot_mono (xs : List ByteArray) {k : Nat} : ∀ n, k ≤ n → tot xs k ≤ tot xs n
  | 0, h => by have : k = 0 := by omega
               subst this; exact Nat.le_refl _
  | n + 1, h => by
    by_cases e : k = n + 1
    · subst e; exact Nat.le_refl _
    · have := tot_mono xs (k := k) n (by omega)
      show tot xs k ≤ tot xs n + ((lnK xs n).size + 3)
      omega
theorem jT_mono (xs : List ByteArray) {k : Nat} : ∀ n, k ≤ n → (jT xs k).size ≤ (jT xs n).size
  | 0, h => by have : k = 0 := by omega
               subst this; exact Nat.le_refl _
  | n + 1, h => by
    by_cases e : k = n + 1
    · subst e; exact Nat.le_refl _
    · have := jT_mono xs (k := k) n (by omega)
      show (jT xs k).size ≤ (jT xs n ++ entS (jC xs (n + 1)) (lnK xs n)).size
      rw [app_size]
      omega
theorem jB_mono (xs : List ByteArray) {k : Nat} (h : jB xs k = true) : ∀ n, k ≤ n → jB xs n = true
  | 0, hn => by have : k = 0 := by omega
                subst this; exact h
  | n + 1, hn => by
    by_cases e : k = n + 1
    · subst e; exact h
    · show (jB xs n || _) = true
      rw [jB_mono xs h n (by omega)]
      rfl
theorem jo_bad {xs : List ByteArray} {k : Nat} (h : jB xs k = true) (hk : k ≤ xs.length) : jO xs = false ∧ jS xs = ⟨#[]⟩ := by
  have e : jO xs = false := by unfold jO; rw [jB_mono xs h _ hk]; rfl
  exact ⟨e, by unfold jS; rw [e]; rfl⟩
theorem jo_good {xs : List ByteArray} (h : jB xs xs.length = false) : jO xs = true ∧ jS xs = jT xs xs.length := by
  have e : jO xs = true := by unfold jO; rw [h]; rfl
  exact ⟨e, by unfold jS; rw [e]; rfl⟩
theorem jo_long {xs : List ByteArray} {n : Nat} (h : 16000 < (jT xs n).size) : jB xs n = true := by
  cases n with
  | zero =>
    have h' : 16000 < 0 := h
    omega
  | succ m =>
    show (jB xs m || (nlF (lnK xs m) || decide (16000 < (jT xs (m + 1)).size))) = true
    rw [decide_eq_true h]
    simp
theorem jo_nl {xs : List ByteArray} {k : Nat} (h : nlF (lnK xs k) = true) : jB xs (k + 1) = true := by
  show (jB xs k || (nlF (lnK xs k) || _)) = true
  rw [h]
  simp
theorem jo_fine {xs : List ByteArray} : ∀ n, nlB xs n = false → (jT xs n).size ≤ 16000 → jB xs n = false
  | 0, _, _ => rfl
  | n + 1, h1, h2 => by
    have hm := jT_mono xs (k := n) (n + 1) (by omega)
    have h1' : (nlB xs n || nlF (lnK xs n)) = false := h1
    rw [Bool.or_eq_false_iff] at h1'
    show (jB xs n || (nlF (lnK xs n) || decide (16000 < (jT xs (n + 1)).size))) = false
    rw [jo_fine n h1'.1 (by omega), h1'.2, decide_eq_false (by omega)]
    rfl
theorem idx_any (l : List UInt8) : decide (0 ≤ Lib.indexByte l 10) = l.any (· == 10) := by
  induction l with
  | nil => rfl
  | cons b l ih =>
    have hge := Lib.indexByte_ge l 10
    by_cases hb : b = 10
    · subst hb; rfl
    · have hb' : (b == (10 : UInt8)) = false := beq_eq_false_iff_ne.2 hb
      rw [List.any_cons, hb', Bool.false_or, ← ih]
      show decide (0 ≤ (if (b == 10) = true then (0 : Int) else if (Lib.indexByte l 10 == -1) = true then -1 else Lib.indexByte l 10 + 1)) = decide (0 ≤ Lib.indexByte l 10)
      rw [hb', if_neg (by decide)]
      by_cases e : Lib.indexByte l 10 = -1
      · rw [e]; rfl
      · have e' : (Lib.indexByte l 10 == -1) = false := beq_eq_false_iff_ne.2 e
        rw [e', if_neg (by decide)]
        have h0 : 0 ≤ Lib.indexByte l 10 := by omega
        rw [decide_eq_true h0, decide_eq_true (by omega)]
end Go.Proofs.YtknabmknboffgaaDoor
