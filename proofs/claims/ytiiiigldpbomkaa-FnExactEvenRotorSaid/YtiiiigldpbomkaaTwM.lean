/- Rotors whose stations are all changed: the words. No statement is proved here. -/
import Derived.Test.YtiiiigldpbomkaaStM
namespace Go.Proofs.Ytiiiigldpbomkaa
open Go Go.RowKit
def twG (u p x : Nat) : Nat := if p = 2 then fop .add .f32 (canon .f32 x) (canon .f32 u) else x
def scG (u p x : Nat) : Nat := if p = 2 then x else fop .mul .f32 (canon .f32 u) (canon .f32 x)
theorem getD_setL {xs : List Nat} {k j x : Nat} (h : k < xs.length) : (xs.set k x).getD j 0 = if j = k then x else xs.getD j 0 := by
  by_cases e : j = k
  · subst e; rw [if_pos rfl]; simp [List.getD, h]
  · rw [if_neg e]; simp [List.getD, List.getElem?_set_ne (Ne.symm e)]
/-- every number of a list of threes by its place among the three -/
def mp3 (g : Nat → Nat → Nat) (s : List Nat) : List Nat := (List.range s.length).map fun j => g (j % 3) (s.getD j 0)
theorem mp3_length (g : Nat → Nat → Nat) (s : List Nat) : (mp3 g s).length = s.length := by simp [mp3]
theorem mp3_at {g : Nat → Nat → Nat} {s : List Nat} {j : Nat} (h : j < s.length) : (mp3 g s).getD j 0 = g (j % 3) (s.getD j 0) := by simp [mp3, List.getD, h]
theorem mp3_0 {g : Nat → Nat → Nat} {s : List Nat} {k : Nat} (h : k * 3 < s.length) : (mp3 g s).getD (k * 3) 0 = g 0 (s.getD (k * 3) 0) := by rw [mp3_at h, show k * 3 % 3 = 0 by omega]
theorem mp3_1 {g : Nat → Nat → Nat} {s : List Nat} {k : Nat} (h : k * 3 + 1 < s.length) : (mp3 g s).getD (k * 3 + 1) 0 = g 1 (s.getD (k * 3 + 1) 0) := by rw [mp3_at h, show (k * 3 + 1) % 3 = 1 by omega]
theorem mp3_2 {g : Nat → Nat → Nat} {s : List Nat} {k : Nat} (h : k * 3 + 2 < s.length) : (mp3 g s).getD (k * 3 + 2) 0 = g 2 (s.getD (k * 3 + 2) 0) := by rw [mp3_at h, show (k * 3 + 2) % 3 = 2 by omega]
/-- the first k stations are changed -/
def Mid (s S : List Nat) (k : Nat) (xs : List Nat) : Prop := xs.length = s.length ∧ ∀ j, j < s.length → canon .f32 (xs.getD j 0) = canon .f32 ((if j < k * 3 then S else s).getD j 0)
theorem Mid.zero (s S : List Nat) : Mid s S 0 s := ⟨rfl, fun j _ => by rw [if_neg (by omega)]⟩
theorem Mid.cl {s S xs : List Nat} {n : Nat} (h : Mid s S n xs) (hs : s.length = n * 3) (hS : S.length = s.length) : CL xs S :=
  ⟨h.1.trans hS.symm, fun j hj => by rw [h.2 j (by rw [← h.1]; exact hj), if_pos (by have := h.1; omega)]⟩
theorem Mid.put {s S xs ys : List Nat} {k n : Nat} (h : Mid s S k xs) (hk : k < n) (hs : s.length = n * 3) (hl : ys.length = xs.length) (h0 : canon .f32 (ys.getD (k * 3) 0) = canon .f32 (S.getD (k * 3) 0)) (h1 : canon .f32 (ys.getD (k * 3 + 1) 0) = canon .f32 (S.getD (k * 3 + 1) 0)) (h2 : canon .f32 (ys.getD (k * 3 + 2) 0) = canon .f32 (S.getD (k * 3 + 2) 0))
    (ho : ∀ j, j ≠ k * 3 → j ≠ k * 3 + 1 → j ≠ k * 3 + 2 → ys.getD j 0 = xs.getD j 0) : Mid s S (k + 1) ys := by
  refine ⟨hl.trans h.1, fun j hj => ?_⟩
  by_cases e0 : j = k * 3
  · subst e0; rw [if_pos (by omega)]; exact h0
  by_cases e1 : j = k * 3 + 1
  · subst e1; rw [if_pos (by omega)]; exact h1
  by_cases e2 : j = k * 3 + 2
  · subst e2; rw [if_pos (by omega)]; exact h2
  rw [ho j e0 e1 e2, h.2 j hj]
  by_cases e : j < k * 3
  · rw [if_pos e, if_pos (by omega)]
  · rw [if_neg e, if_neg (by omega)]
theorem gtr32_isn {x y : Nat} (h : gtr32 x y = true) : isn .f32 x = false := by
  cases hn : isn .f32 x
  · rfl
  · unfold gtr32 at h
    rw [order_nan_left hn] at h
    cases h
theorem amount_C {x y : Nat} (h : canon .f32 x = canon .f32 y) : amount x = amount y := by
  simp only [amount, geq32]
  rw [fin_eqC h, order_eqC h rfl]
theorem amount_isn {x : Nat} (h : amount x = true) : isn .f32 x = false := by
  unfold amount at h
  simp only [Bool.and_eq_true] at h
  exact isn_of_fin h.1
theorem eq_of_canon {x y : Nat} (h : canon .f32 x = canon .f32 y) (hx : isn .f32 x = false) : x = y := by
  have hy : isn .f32 y = false := by rw [← isn_canon, ← h, isn_canon]; exact hx
  rw [canon_of_not hx, canon_of_not hy] at h
  exact h
theorem sts_CL {xs S : List Nat} {hub tip hub' tip' : Nat} (h : CL xs S) (hh : canon .f32 hub = canon .f32 hub') (ht : canon .f32 tip = canon .f32 tip') : ∀ k, k * 3 ≤ xs.length → sts xs hub tip k = sts S hub' tip' k := by
  intro k
  induction k with
  | zero => intro _; rfl
  | succ k ih =>
    intro hk
    have e0 : canon .f32 (rad xs k) = canon .f32 (rad S k) := h.2 (k * 3) (by omega)
    have e1 : canon .f32 (chd xs k) = canon .f32 (chd S k) := h.2 (k * 3 + 1) (by omega)
    have e2 : canon .f32 (twi xs k) = canon .f32 (twi S k) := h.2 (k * 3 + 2) (by omega)
    have eb : canon .f32 (bef xs hub k) = canon .f32 (bef S hub' k) := by
      unfold bef
      split
      · exact hh
      · exact h.2 ((k - 1) * 3) (by omega)
    simp only [sts, ih (by omega), stStep, posi, gtr32, lss32]
    rw [order_eqC e0 eb, order_eqC e0 ht, fin_eqC e1, order_eqC e1 rfl, fin_eqC e2]
theorem sts_isn {xs : List Nat} {hub tip : Nat} : ∀ n, sts xs hub tip n = true → ∀ j, j < n * 3 → isn .f32 (xs.getD j 0) = false := by
  intro n
  induction n with
  | zero => intro _ j hj; omega
  | succ n ih =>
    intro h j hj
    simp only [sts, Bool.and_eq_true] at h
    by_cases e : j < n * 3
    · exact ih h.1 j e
    · have h2 := h.2
      unfold stStep posi at h2
      simp only [Bool.and_eq_true] at h2
      obtain ⟨⟨g0, -⟩, ⟨g1, -⟩, g2⟩ := h2
      have hj3 : j = n * 3 ∨ j = n * 3 + 1 ∨ j = n * 3 + 2 := by omega
      rcases hj3 with rfl | rfl | rfl
      · exact gtr32_isn g0
      · exact isn_of_fin g1
      · exact isn_of_fin g2
theorem validR_CL {a l d xs S : List Nat} {n hub tip hub' tip' : Nat} {c : Int} (h : CL xs S) (hs : xs.length = n * 3) (hh : canon .f32 hub = canon .f32 hub') (ht : canon .f32 tip = canon .f32 tip') :
    validR a l d xs n c hub tip = validR a l d S n c hub' tip' ∧ (validR a l d S n c hub' tip' = true → xs = S ∧ hub = hub' ∧ tip = tip') := by
  have e : validR a l d xs n c hub tip = validR a l d S n c hub' tip' := by
    unfold validR
    rw [sts_CL h hh ht n (by omega), amount_C hh, fin_eqC ht]
  refine ⟨e, fun hv => ?_⟩
  rw [← e] at hv
  unfold validR at hv
  simp only [Bool.and_eq_true] at hv
  obtain ⟨-, -, v1, v2, v3⟩ := hv
  exact ⟨h.eq (fun k hk => sts_isn n v3 k (by omega)), eq_of_canon hh (amount_isn v1), eq_of_canon ht (isn_of_fin v2)⟩
end Go.Proofs.Ytiiiigldpbomkaa
