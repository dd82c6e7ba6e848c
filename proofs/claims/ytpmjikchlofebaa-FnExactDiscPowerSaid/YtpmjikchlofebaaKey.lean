/- Finite numbers in order. No statement is proved here. -/
import Derived.Test.YtpmjikchlofebaaProf
import Derived.Test.YtpmjikchlofebaaSin
namespace Go.Proofs.Ytpmjikchlofebaa
open Go Go.RowKit
/-! ## finite numbers in order -/
def key (b : Nat) : Int := match FloatKind.f32.decode b with
  | .number s m e => Ieee.signed s m (e + 149).toNat
  | _ => 0
theorem signed_up (s : Bool) (m u v : Nat) : Ieee.signed s m (u + v) = Ieee.signed s m u * 2 ^ v := by
  unfold Ieee.signed
  rw [Nat.shiftLeft_eq, Nat.shiftLeft_eq, Nat.pow_add, ← Nat.mul_assoc]
  cases s
  · simp
  · simp [Int.neg_mul]
theorem compare_mul (a b c : Int) (hc : 0 < c) : compare (a * c) (b * c) = compare a b := by
  rcases Int.lt_trichotomy a b with h | h | h
  · rw [Int.compare_eq_lt.2 h, Int.compare_eq_lt.2 (Int.mul_lt_mul_of_pos_right h hc)]
  · subst h; rw [Int.compare_eq_eq.2 rfl, Int.compare_eq_eq.2 rfl]
  · rw [Int.compare_eq_gt.2 h, Int.compare_eq_gt.2 (Int.mul_lt_mul_of_pos_right h hc)]
theorem order_key {a b : Nat} (ha : fin .f32 a = true) (hb : fin .f32 b = true) : FloatKind.f32.format.order a b = some (compare (key a) (key b)) := by
  cases h1 : FloatKind.f32.decode a with
  | nan s f => unfold fin at ha; rw [h1] at ha; cases ha
  | infinity s => unfold fin at ha; rw [h1] at ha; cases ha
  | number s m i =>
    cases h2 : FloatKind.f32.decode b with
    | nan s f => unfold fin at hb; rw [h2] at hb; cases hb
    | infinity s => unfold fin at hb; rw [h2] at hb; cases hb
    | number t n j =>
      obtain ⟨-, hi, -⟩ := f32_number h1
      obtain ⟨-, hj, -⟩ := f32_number h2
      rw [order_numbers h1 h2]
      have k1 : key a = Ieee.signed s m (i - min i j).toNat * 2 ^ (min i j + 149).toNat := by
        unfold key; rw [h1]; simp only []; rw [← signed_up, show (i - min i j).toNat + (min i j + 149).toNat = (i + 149).toNat by omega]
      have k2 : key b = Ieee.signed t n (j - min i j).toNat * 2 ^ (min i j + 149).toNat := by
        unfold key; rw [h2]; simp only []; rw [← signed_up, show (j - min i j).toNat + (min i j + 149).toNat = (j + 149).toNat by omega]
      have hp : (0 : Int) < 2 ^ (min i j + 149).toNat := Int.pow_pos (by decide)
      rw [k1, k2, compare_mul _ _ _ hp]
theorem leq_key {a b : Nat} (ha : fin .f32 a = true) (hb : fin .f32 b = true) : leq32 a b = decide (key a ≤ key b) := by
  unfold leq32; rw [order_key ha hb, cmp_lt, cmp_eq]
  by_cases h : key a < key b
  · have h3 : key a ≤ key b := by omega
    rw [decide_eq_true h, decide_eq_true h3]; rfl
  · by_cases h2 : key a = key b
    · have h3 : key a ≤ key b := by omega
      rw [decide_eq_false h, decide_eq_true h2, decide_eq_true h3]; rfl
    · have h3 : ¬ key a ≤ key b := by omega
      rw [decide_eq_false h, decide_eq_false h2, decide_eq_false h3]; rfl
theorem gtr_key {a b : Nat} (ha : fin .f32 a = true) (hb : fin .f32 b = true) : gtr32 a b = decide (key b < key a) := by
  unfold gtr32; rw [order_key ha hb, cmp_gt]
theorem lss_key {a b : Nat} (ha : fin .f32 a = true) (hb : fin .f32 b = true) : lss32 a b = decide (key a < key b) := by
  unfold lss32; rw [order_key ha hb, cmp_lt]

end Go.Proofs.Ytpmjikchlofebaa
