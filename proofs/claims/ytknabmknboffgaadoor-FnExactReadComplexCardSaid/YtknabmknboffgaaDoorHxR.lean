/- The number that eight digits of base 16 tell: mathematics. No statement is proved here. -/
import Derived.Test.YtknabmknboffgaaDoorHexM
import Derived.Test.YtknabmknboffgaaDoorProf
namespace Go.Proofs.YtknabmknboffgaaDoor
open Go Go.RowKit
/-- what a digit tells; 16 where there is none -/
def hxd (c : UInt8) : Nat := if 48 ≤ c.toNat ∧ c.toNat ≤ 57 then c.toNat - 48 else if 97 ≤ c.toNat ∧ c.toNat ≤ 102 then c.toNat - 87 else 16
def isHex (s : List UInt8) : Bool := s.all fun c => decide (hxd c < 16)
def hxv (s : List UInt8) : Nat := s.foldl (fun n c => 16 * n + hxd c) 0
theorem hexc_hxd : ∀ c : UInt8, hxd c < 16 → hexc (hxd c) = c := by
  intro c h
  apply UInt8.toNat_inj.1
  rw [hexc_toNat _ h]
  unfold hxd at h ⊢
  by_cases h1 : 48 ≤ c.toNat ∧ c.toNat ≤ 57
  · simp only [if_pos h1]
    rw [if_pos (by omega)]
    omega
  · simp only [if_neg h1] at h ⊢
    by_cases h2 : 97 ≤ c.toNat ∧ c.toNat ≤ 102
    · simp only [if_pos h2]
      rw [if_neg (by omega)]
      omega
    · rw [if_neg h2] at h
      omega
theorem hxd_hexc {d : Nat} (h : d < 16) : hxd (hexc d) = d := by
  have hh : ∀ d : Fin 16, hxd (hexc d.1) = d.1 := by decide +kernel
  exact hh ⟨d, h⟩
theorem hxv_snoc (s : List UInt8) (c : UInt8) : hxv (s ++ [c]) = 16 * hxv s + hxd c := by simp [hxv]
theorem isHex_snoc (s : List UInt8) (c : UInt8) : isHex (s ++ [c]) = (isHex s && decide (hxd c < 16)) := by simp [isHex]
theorem snoc_of {s : List UInt8} {k : Nat} (h : s.length = k + 1) : ∃ t c, s = t ++ [c] ∧ t.length = k := by
  rcases List.eq_nil_or_concat s with rfl | ⟨t, c, rfl⟩
  · simp at h
  · exact ⟨t, c, by simp, by simpa using h⟩
theorem hxv_lt : ∀ (k : Nat) (s : List UInt8), s.length = k → isHex s = true → hxv s < 16 ^ k := by
  intro k
  induction k with
  | zero => intro s h _; rw [List.eq_nil_of_length_eq_zero h]; decide
  | succ k ih =>
    intro s h hx
    obtain ⟨t, c, rfl, ht⟩ := snoc_of h
    rw [isHex_snoc, Bool.and_eq_true, decide_eq_true_eq] at hx
    have := ih t ht hx.1
    rw [hxv_snoc, Nat.pow_succ]
    omega
theorem hexN_hxv : ∀ (k : Nat) (s : List UInt8), s.length = k → isHex s = true → hexN k (hxv s) = s := by
  intro k
  induction k with
  | zero => intro s h _; rw [List.eq_nil_of_length_eq_zero h]; rfl
  | succ k ih =>
    intro s h hx
    obtain ⟨t, c, rfl, ht⟩ := snoc_of h
    rw [isHex_snoc, Bool.and_eq_true, decide_eq_true_eq] at hx
    rw [hxv_snoc, hexN_next, show (16 * hxv t + hxd c) / 16 = hxv t by omega, show (16 * hxv t + hxd c) % 16 = hxd c by omega, ih t ht hx.1, hexc_hxd c hx.2]
theorem hexN_isHex : ∀ (k n : Nat), isHex (hexN k n) = true := by
  intro k
  induction k with
  | zero => intro n; rfl
  | succ k ih =>
    intro n
    rw [hexN_next, isHex_snoc, ih, hxd_hexc (Nat.mod_lt _ (by decide))]
    simp [Nat.mod_lt]
theorem hxv_hexN : ∀ (k n : Nat), n < 16 ^ k → hxv (hexN k n) = n := by
  intro k
  induction k with
  | zero => intro n h; have : n = 0 := by simpa using h
            subst this; rfl
  | succ k ih =>
    intro n h
    rw [Nat.pow_succ] at h
    rw [hexN_next, hxv_snoc, ih (n / 16) (by omega), hxd_hexc (Nat.mod_lt _ (by decide))]
    omega
theorem isHex_take {s : List UInt8} (h : isHex s = true) (k : Nat) : isHex (s.take k) = true := by
  unfold isHex at *
  rw [List.all_eq_true] at *
  exact fun c hc => h c (List.mem_of_mem_take hc)
theorem isHex_at {s : List UInt8} (h : isHex s = true) {k : Nat} (hk : k < s.length) : hxd (s.getD k 0) < 16 := by
  unfold isHex at h
  rw [List.all_eq_true] at h
  have := h (s[k]) (List.getElem_mem hk)
  rw [decide_eq_true_eq] at this
  simpa [List.getD, List.getElem?_eq_getElem hk] using this
theorem hxv_take {s : List UInt8} {k : Nat} (hk : k < s.length) : hxv (s.take (k + 1)) = 16 * hxv (s.take k) + hxd (s.getD k 0) := by
  rw [List.take_succ_eq_append_getElem hk, hxv_snoc]
  simp [List.getD, List.getElem?_eq_getElem hk]
/-- whether eight digits tell a number as numbers are told, and which -/
def eightH (s : List UInt8) : Bool := decide (s.length = 8) && isHex s
def rdB (s : List UInt8) : Bool := eightH s && decide (canon .f32 (hxv s) = hxv s)
theorem eightH_lt {s : List UInt8} (h : eightH s = true) : hxv s < 4294967296 := by
  unfold eightH at h
  rw [Bool.and_eq_true, decide_eq_true_eq] at h
  exact hxv_lt 8 s h.1 h.2
theorem rd_text_good {s : List UInt8} (h : eightH s = true) (hc : canon .f32 (hxv s) < 4294967296) : decide (hexN 8 (canon .f32 (hxv s)) = s) = rdB s := by
  unfold rdB
  rw [h, Bool.true_and]
  have h' := h
  unfold eightH at h'
  rw [Bool.and_eq_true, decide_eq_true_eq] at h'
  apply decide_eq_decide.2
  constructor
  · intro e
    have := congrArg hxv e
    rwa [hxv_hexN 8 _ hc] at this
  · intro e
    rw [e, hexN_hxv 8 s h'.1 h'.2]
theorem rd_text_bad {s : List UInt8} (h : eightH s = false) (n : Nat) : hexN 8 n ≠ s := by
  intro e
  have : eightH (hexN 8 n) = true := by unfold eightH; rw [hexN_isHex, hexN_length]; rfl
  rw [e, h] at this
  cases this
theorem rdB_bad {s : List UInt8} (h : eightH s = false) : rdB s = false := by unfold rdB; rw [h]; rfl
end Go.Proofs.YtknabmknboffgaaDoor
