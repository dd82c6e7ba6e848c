/- Hexadecimal digits of numbers as bytes. No statement is proved here. -/
import Derived.Below
namespace Go.Proofs.YtknabmknboffgaaDoor
/-- a hexadecimal digit -/
def hexc (d : Nat) : UInt8 := if d < 10 then UInt8.ofNat (48 + d) else UInt8.ofNat (87 + d)
/-- so many digits, from the left -/
def hexN : Nat → Nat → List UInt8
  | 0, _ => []
  | m + 1, n => hexN m (n / 16) ++ [hexc (n % 16)]
theorem hexN_length (m n : Nat) : (hexN m n).length = m := by
  induction m generalizing n with
  | zero => rfl
  | succ m ih => simp [hexN, ih]
theorem hexN_next (j n : Nat) : hexN (j + 1) n = hexN j (n / 16) ++ [hexc (n % 16)] := rfl
theorem hexN_cons (k n : Nat) : hexN (k + 1) n = hexc (n / 16 ^ k % 16) :: hexN k n := by
  induction k generalizing n with
  | zero => simp [hexN]
  | succ k ih =>
    rw [hexN_next, ih, hexN_next k n, List.cons_append]
    congr 3
    rw [Nat.div_div_eq_div_mul, Nat.pow_succ, Nat.mul_comm]
theorem hexN_pad (j m n : Nat) (h : n < 16 ^ m) : List.replicate j 48 ++ hexN m n = hexN (m + j) n := by
  induction j with
  | zero => rfl
  | succ j ih =>
    have e : n / 16 ^ (m + j) = 0 := by
      apply Nat.div_eq_of_lt
      calc n < 16 ^ m := h
        _ ≤ 16 ^ (m + j) := Nat.pow_le_pow_right (by omega) (by omega)
    rw [show m + (j + 1) = (m + j) + 1 by omega, hexN_cons, e, List.replicate_succ, List.cons_append, ih]
    rfl
theorem hexc_toNat (d : Nat) (h : d < 16) : (hexc d).toNat = if d < 10 then 48 + d else 87 + d := by
  unfold hexc
  split <;> simp [UInt8.toNat_ofNat'] <;> omega
theorem hexN_at (k n : Nat) : (hexN (k + 1) n).getD 0 0 = hexc (n / 16 ^ k % 16) := by rw [hexN_cons]; rfl
theorem hexN_tail (k n j : Nat) : (hexN (k + 1) n).getD (j + 1) 0 = (hexN k n).getD j 0 := by rw [hexN_cons]; rfl
end Go.Proofs.YtknabmknboffgaaDoor
