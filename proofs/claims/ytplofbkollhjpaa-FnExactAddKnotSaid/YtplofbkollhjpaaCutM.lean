/- CutProfile: what is cut out of a profile lies side by side. No statement is proved here. -/
import Derived.Test.YtplofbkollhjpaaPgr
import Derived.Test.YtplofbkollhjpaaKey
namespace Go.Proofs.Ytplofbkollhjpaa
open Go Go.RowKit
theorem within_fin {x : Nat} (h : within x 3204448256 1056964608 = true) : fin .f32 x = true := by
  unfold within at h
  rw [Bool.and_eq_true] at h
  unfold fin
  cases hd : FloatKind.f32.decode x with
  | number s m e => rfl
  | nan s f =>
    exfalso
    have := within_isn (x := x) (by unfold within; rw [h.1, h.2]; rfl)
    unfold isn at this
    rw [hd] at this
    cases this
  | infinity s =>
    exfalso
    have hd' : FloatKind.f32.format.read x = .infinity s := hd
    have h1 : FloatKind.f32.format.read 3204448256 = .number true 8388608 (-24) := by decide +kernel
    have h2 : FloatKind.f32.format.read 1056964608 = .number false 8388608 (-24) := by decide +kernel
    unfold geq32 leq32 Ieee.Format.order at h
    rw [hd', h1, h2] at h
    cases s
    · exact absurd h.2 (by decide)
    · exact absurd h.1 (by decide)
theorem geq_mono {x y f : Nat} (hx : fin .f32 x = true) (hy : fin .f32 y = true) (hk : key x ≤ key y) (h : geq32 x f = true) : geq32 y f = true := by
  cases hf : fin .f32 f with
  | true =>
    have e : ∀ z, fin .f32 z = true → geq32 z f = decide (key f ≤ key z) := by
      intro z hz
      unfold geq32
      rw [order_key hz hf]
      cases hc : compare (key z) (key f) with
      | lt => rw [Int.compare_eq_lt] at hc; symm; rw [show (some Ordering.lt == some Ordering.gt || some Ordering.lt == some Ordering.eq) = false from rfl]; exact decide_eq_false (by omega)
      | eq => rw [Int.compare_eq_eq] at hc; symm; rw [show (some Ordering.eq == some Ordering.gt || some Ordering.eq == some Ordering.eq) = true from rfl]; exact decide_eq_true (by omega)
      | gt => rw [Int.compare_eq_gt] at hc; symm; rw [show (some Ordering.gt == some Ordering.gt || some Ordering.gt == some Ordering.eq) = true from rfl]; exact decide_eq_true (by omega)
    rw [e x hx] at h
    rw [e y hy]
    have := of_decide_eq_true h
    exact decide_eq_true (by omega)
  | false =>
    unfold geq32 Ieee.Format.order at h ⊢
    unfold fin FloatKind.decode at hx hy hf
    cases dx : FloatKind.f32.format.read x <;> rw [dx] at hx h <;> first | cases hx | skip
    cases dy : FloatKind.f32.format.read y <;> rw [dy] at hy <;> first | cases hy | skip
    cases df : FloatKind.f32.format.read f <;> rw [df] at hf h <;> first | exact h | cases hf
theorem leq_mono {x y f : Nat} (hx : fin .f32 x = true) (hy : fin .f32 y = true) (hk : key y ≤ key x) (h : leq32 x f = true) : leq32 y f = true := by
  cases hf : fin .f32 f with
  | true =>
    rw [leq_key hx hf] at h
    rw [leq_key hy hf]
    have := of_decide_eq_true h
    exact decide_eq_true (by omega)
  | false =>
    unfold leq32 Ieee.Format.order at h ⊢
    unfold fin FloatKind.decode at hx hy hf
    cases dx : FloatKind.f32.format.read x <;> rw [dx] at hx h <;> first | cases hx | skip
    cases dy : FloatKind.f32.format.read y <;> rw [dy] at hy <;> first | cases hy | skip
    cases df : FloatKind.f32.format.read f <;> rw [df] at hf h <;> first | exact h | cases hf
theorem angs_getC {xs : List Nat} : ∀ {n : Nat}, angs xs n = true → ∀ k, k < n → angStep xs k = true := by
  intro n
  induction n with
  | zero => intro _ k hk; omega
  | succ n ih =>
    intro h k hk
    simp only [angs, Bool.and_eq_true] at h
    by_cases e : k = n
    · rw [e]; exact h.2
    · exact ih h.1 k (by omega)
/-- angles rise -/
theorem angs_rise {xs : List Nat} {n : Nat} (h : angs xs n = true) : ∀ i j, i ≤ j → j < n → key (xs.getD i 0) ≤ key (xs.getD j 0) := by
  have hf : ∀ k, k < n → fin .f32 (xs.getD k 0) = true := by
    intro k hk
    have := angs_getC h k hk
    unfold angStep at this
    rw [Bool.and_eq_true] at this
    exact within_fin this.1
  intro i j
  induction j with
  | zero => intro h1 _; rw [show i = 0 by omega]; exact Int.le_refl _
  | succ j ih =>
    intro h1 h2
    by_cases e : i = j + 1
    · rw [e]; exact Int.le_refl _
    · have g := angs_getC h (j + 1) h2
      unfold angStep at g
      rw [Bool.and_eq_true] at g
      have g2 := g.2
      rw [show (j + 1 == 0) = false from rfl, Bool.false_or, show j + 1 - 1 = j from rfl, leq_key (hf _ h2) (hf _ (by omega))] at g2
      have := ih (by omega) (by omega)
      rw [Bool.not_eq_true'] at g2
      have g3 := of_decide_eq_false g2
      omega
def selB (a : List Nat) (lo hi k : Nat) : Bool := within (a.getD k 0) lo hi
/-- what lies between two that are wanted is wanted -/
theorem sel_mid {a : List Nat} {n lo hi : Nat} (h : angs a n = true) {i m j : Nat} (h1 : i ≤ m) (h2 : m ≤ j) (h3 : j < n) (hi' : selB a lo hi i = true) (hj : selB a lo hi j = true) : selB a lo hi m = true := by
  have hf : ∀ k, k < n → fin .f32 (a.getD k 0) = true := by
    intro k hk
    have := angs_getC h k hk
    unfold angStep at this
    rw [Bool.and_eq_true] at this
    exact within_fin this.1
  unfold selB within at *
  rw [Bool.and_eq_true] at *
  exact ⟨geq_mono (hf i (by omega)) (hf m (by omega)) (angs_rise h i m h1 (by omega)) hi'.1, leq_mono (hf j h3) (hf m (by omega)) (angs_rise h m j h2 h3) hj.2⟩
/-- those that are wanted of the first k -/
def cutK (a xs : List Nat) (lo hi : Nat) : Nat → List Nat
  | 0 => []
  | k + 1 => if selB a lo hi k then cutK a xs lo hi k ++ [xs.getD k 0] else cutK a xs lo hi k
def cutL (a xs : List Nat) (lo hi : Nat) : List Nat := cutK a xs lo hi a.length
/-- where they begin and end -/
def cutF (a : List Nat) (lo hi : Nat) : Nat → Nat × Nat
  | 0 => (0, 0)
  | k + 1 => if selB a lo hi k then ((if (cutF a lo hi k).1 = (cutF a lo hi k).2 then k else (cutF a lo hi k).1), k + 1) else cutF a lo hi k
theorem cut_inv {a xs : List Nat} {n lo hi : Nat} (h : angs a n = true) (hn : n ≤ xs.length) : ∀ k, k ≤ n →
    (cutF a lo hi k).1 ≤ (cutF a lo hi k).2 ∧ (cutF a lo hi k).2 ≤ k ∧ cutK a xs lo hi k = (xs.take (cutF a lo hi k).2).drop (cutF a lo hi k).1 ∧
    ((cutF a lo hi k).1 < (cutF a lo hi k).2 → selB a lo hi ((cutF a lo hi k).2 - 1) = true) ∧ (∀ i, (cutF a lo hi k).2 ≤ i → i < k → selB a lo hi i = false) := by
  intro k
  induction k with
  | zero => intro _; exact ⟨Nat.le_refl _, Nat.le_refl _, by simp [cutK, cutF], fun h => absurd h (by simp [cutF]), fun i _ hi => by omega⟩
  | succ k ih =>
    intro hk
    obtain ⟨i1, i2, i3, i4, i5⟩ := ih (by omega)
    cases hs : selB a lo hi k with
    | false =>
      simp only [cutF, cutK, hs, Bool.false_eq_true, if_false]
      refine ⟨i1, by omega, i3, i4, fun i hi1 hi2 => ?_⟩
      by_cases e : i = k
      · rw [e]; exact hs
      · exact i5 i hi1 (by omega)
    | true =>
      simp only [cutF, cutK, hs, if_true]
      have ht : xs.take (k + 1) = xs.take k ++ [xs.getD k 0] := take_snoc (by omega)
      by_cases e : (cutF a lo hi k).1 = (cutF a lo hi k).2
      · rw [if_pos e]
        refine ⟨by omega, by omega, ?_, fun _ => by rw [show k + 1 - 1 = k from rfl]; exact hs, fun i h1 h2 => by omega⟩
        have e0 : cutK a xs lo hi k = [] := by rw [i3, e]; exact List.drop_of_length_le (by rw [List.length_take]; omega)
        rw [e0, ht, List.drop_append_of_le_length (by rw [List.length_take]; omega), List.drop_of_length_le (by rw [List.length_take]; omega)]
      · rw [if_neg e]
        have hE : (cutF a lo hi k).2 = k := by
          by_cases hE : (cutF a lo hi k).2 = k
          · exact hE
          · have h1 := i4 (by omega)
            have h2 := sel_mid h (i := (cutF a lo hi k).2 - 1) (m := (cutF a lo hi k).2) (j := k) (by omega) (by omega) (by omega) h1 hs
            rw [i5 _ (Nat.le_refl _) (by omega)] at h2
            cases h2
        refine ⟨by omega, by omega, ?_, fun _ => by rw [show k + 1 - 1 = k from rfl]; exact hs, fun i h1 h2 => by omega⟩
        rw [i3, hE, ht, List.drop_append_of_le_length (by rw [List.length_take]; omega)]
theorem cutK_len (a xs ys : List Nat) (lo hi : Nat) : ∀ k, (cutK a xs lo hi k).length = (cutK a ys lo hi k).length := by
  intro k
  induction k with
  | zero => rfl
  | succ k ih =>
    simp only [cutK]
    split
    · simp [ih]
    · exact ih
theorem cutK_le (a xs : List Nat) (lo hi : Nat) : ∀ k, (cutK a xs lo hi k).length ≤ k := by
  intro k
  induction k with
  | zero => simp [cutK]
  | succ k ih =>
    simp only [cutK]
    split
    · simp; omega
    · omega
def cutO (a l d : List Nat) (lo hi : Nat) : Bool := validP a l d && validP (cutL a a lo hi) (cutL a l lo hi) (cutL a d lo hi)
theorem cut_few (a l d : List Nat) (lo hi : Nat) : Few (gLp (cutO a l d lo hi) (cutL a a lo hi)) (gLp (cutO a l d lo hi) (cutL a l lo hi)) (gLp (cutO a l d lo hi) (cutL a d lo hi)) :=
  gL_few (fun h => by unfold cutO at h; rw [Bool.and_eq_true] at h; exact sized_of h.2)
end Go.Proofs.Ytplofbkollhjpaa
