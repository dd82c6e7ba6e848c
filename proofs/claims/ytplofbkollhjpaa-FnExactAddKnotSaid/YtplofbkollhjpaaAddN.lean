/- AddKnot: where the number goes: the program's place and the specification's. No statement is proved here. -/
import Derived.Test.YtplofbkollhjpaaAddM
namespace Go.Proofs.Ytplofbkollhjpaa
open Go Go.RowKit
/-- the first place below n where p says yes, or n -/
def IsF (p : Nat → Bool) (n I : Nat) : Prop := I ≤ n ∧ (∀ j, j < I → p j = false) ∧ (I < n → p I = true)
theorem isF_ex (p : Nat → Bool) : ∀ n, ∃ I, IsF p n I := by
  intro n
  induction n with
  | zero => exact ⟨0, Nat.le_refl _, fun j hj => by omega, fun h => by omega⟩
  | succ n ih =>
    obtain ⟨I, h1, h2, h3⟩ := ih
    by_cases e : I < n
    · exact ⟨I, by omega, h2, fun _ => h3 e⟩
    · have e' : I = n := by omega
      subst e'
      cases hp : p I
      · refine ⟨I + 1, by omega, fun j hj => ?_, fun h => by omega⟩
        by_cases ej : j = I
        · rw [ej]; exact hp
        · exact h2 j (by omega)
      · exact ⟨I, by omega, h2, fun _ => hp⟩
theorem isF_one {p : Nat → Bool} {n I J : Nat} (h : IsF p n I) (g : IsF p n J) : I = J := by
  obtain ⟨h1, h2, h3⟩ := h
  obtain ⟨g1, g2, g3⟩ := g
  rcases Nat.lt_trichotomy I J with e | e | e
  · have := g2 I e
    rw [h3 (by omega)] at this
    cases this
  · exact e
  · have := h2 J e
    rw [g3 (by omega)] at this
    cases this
def insL (xs : List Nat) (j x : Nat) : List Nat := xs.take j ++ x :: xs.drop j
theorem insL_length (xs : List Nat) (j x : Nat) : (insL xs j x).length = xs.length + 1 := by
  unfold insL
  rw [List.length_append, List.length_cons, List.length_take, List.length_drop]
  omega
theorem insL_lt {xs : List Nat} {j x k : Nat} (h : k < j) (hj : j ≤ xs.length) : (insL xs j x).getD k 0 = xs.getD k 0 := by
  unfold insL
  rw [List.getD_eq_getElem?_getD, List.getD_eq_getElem?_getD, List.getElem?_append_left (by rw [List.length_take]; omega), List.getElem?_take, if_pos h]
theorem insL_at {xs : List Nat} {j x : Nat} (hj : j ≤ xs.length) : (insL xs j x).getD j 0 = x := by
  unfold insL
  have hl : (xs.take j).length = j := by rw [List.length_take]; omega
  rw [List.getD_eq_getElem?_getD, List.getElem?_append_right (by omega), hl, Nat.sub_self]
  rfl
theorem insL_next {xs : List Nat} {j x : Nat} (hj : j < xs.length) : (insL xs j x).getD (j + 1) 0 = xs.getD j 0 := by
  unfold insL
  have hl : (xs.take j).length = j := by rw [List.length_take]; omega
  rw [List.getD_eq_getElem?_getD, List.getElem?_append_right (by omega), hl, show j + 1 - j = 0 + 1 by omega, List.getElem?_cons_succ, List.getElem?_drop, List.getD_eq_getElem?_getD]
  rfl
theorem add_list {a xs : List Nat} {q x n J : Nat} (hJ : IsF (fun j => lss32 q (a.getD j 0)) n J) (hx : xs.length = n) : ∀ k, k ≤ n →
    addP a q k = decide (J < k) ∧ addK a xs q x k = if J < k then xs.take J ++ x :: (xs.take k).drop J else xs.take k := by
  obtain ⟨h1, h2, h3⟩ := hJ
  intro k
  induction k with
  | zero => intro _; exact ⟨rfl, by simp [addK]⟩
  | succ k ih =>
    intro hk
    obtain ⟨i1, i2⟩ := ih (by omega)
    have ht : xs.take (k + 1) = xs.take k ++ [xs.getD k 0] := take_snoc (by omega)
    have hl : (xs.take k).length = k := by rw [List.length_take]; omega
    simp only [addP, addK, i1, i2]
    rcases Nat.lt_trichotomy J k with e | e | e
    · rw [decide_eq_true e, Bool.true_or, decide_eq_true (show J < k + 1 by omega)]
      refine ⟨rfl, ?_⟩
      rw [if_neg (by simp), if_pos e, if_pos (by omega), ht, List.drop_append_of_le_length (by omega)]
      simp
    · subst e
      have hp : lss32 q (a.getD J 0) = true := h3 (by omega)
      rw [decide_eq_false (Nat.lt_irrefl J), hp, decide_eq_true (show J < J + 1 by omega)]
      refine ⟨rfl, ?_⟩
      rw [if_pos (show (!false && true) = true from rfl), if_neg (Nat.lt_irrefl J), if_pos (show J < J + 1 by omega), ht, List.drop_append_of_le_length (by omega), List.drop_of_length_le (by omega)]
      simp
    · have hp : lss32 q (a.getD k 0) = false := h2 k e
      rw [decide_eq_false (show ¬ J < k by omega), hp, decide_eq_false (show ¬ J < k + 1 by omega)]
      refine ⟨rfl, ?_⟩
      rw [if_neg (by simp), if_neg (by omega), if_neg (by omega), ht]
theorem addL_ins {a xs : List Nat} {q x J : Nat} (hJ : IsF (fun j => lss32 q (a.getD j 0)) a.length J) (hx : xs.length = a.length) : addL a xs q x = insL xs J x := by
  obtain ⟨i1, i2⟩ := add_list (x := x) hJ hx a.length (Nat.le_refl _)
  unfold addL insL
  rw [i1, i2]
  have ht : xs.take a.length = xs := List.take_of_length_le (by omega)
  by_cases e : J < a.length
  · rw [decide_eq_true e, if_pos rfl, if_pos e, ht]
  · have e' : J = a.length := by have := hJ.1; omega
    rw [decide_eq_false e, if_neg (by simp), if_neg e, e', List.drop_of_length_le (by omega)]
theorem valid_ang {x y z : List Nat} (h : validP x y z = true) : ∀ k, k < x.length → angStep x k = true := by
  have hs := sized_of h
  rw [validP_yes hs] at h
  simp only [Bool.and_eq_true] at h
  exact angs_getC h.1
theorem valid_ins {a y z : List Nat} {q I : Nat} (hI : I ≤ a.length) (h : validP (insL a I q) y z = true) : within q 3204448256 1056964608 = true := by
  have h1 := valid_ang h I (by rw [insL_length]; omega)
  unfold angStep at h1
  rw [insL_at hI, Bool.and_eq_true] at h1
  exact h1.1
theorem geq_key {x q : Nat} (hx : fin .f32 x = true) (hq : fin .f32 q = true) : geq32 x q = decide (key q ≤ key x) := by
  unfold geq32
  rw [order_key hx hq]
  cases hc : compare (key x) (key q) with
  | lt => rw [Int.compare_eq_lt] at hc; symm; rw [show (some Ordering.lt == some Ordering.gt || some Ordering.lt == some Ordering.eq) = false from rfl]; exact decide_eq_false (by omega)
  | eq => rw [Int.compare_eq_eq] at hc; symm; rw [show (some Ordering.eq == some Ordering.gt || some Ordering.eq == some Ordering.eq) = true from rfl]; exact decide_eq_true (by omega)
  | gt => rw [Int.compare_eq_gt] at hc; symm; rw [show (some Ordering.gt == some Ordering.gt || some Ordering.gt == some Ordering.eq) = true from rfl]; exact decide_eq_true (by omega)
/-- the program's place is the specification's, or both profiles are none -/
theorem add_eq {a l d : List Nat} {q u v I : Nat} (hv : validP a l d = true) (hI : IsF (fun j => geq32 (a.getD j 0) q) a.length I) :
    addO a l d q u v = validP (insL a I q) (insL l I u) (insL d I v) ∧ (addO a l d q u v = true → addL a a q q = insL a I q ∧ addL a l q u = insL l I u ∧ addL a d q v = insL d I v) := by
  obtain ⟨s1, s2, s3, s4⟩ := sized_of hv
  obtain ⟨J, hJ⟩ := isF_ex (fun j => lss32 q (a.getD j 0)) a.length
  have eO : addO a l d q u v = (within q 3204448256 1056964608 && validP (insL a J q) (insL l J u) (insL d J v)) := by
    unfold addO
    rw [hv, Bool.true_and, addL_ins hJ rfl, addL_ins hJ s3, addL_ins hJ s4]
  have eW : ∀ K, K ≤ a.length → (within q 3204448256 1056964608 && validP (insL a K q) (insL l K u) (insL d K v)) = validP (insL a K q) (insL l K u) (insL d K v) := by
    intro K hK
    cases hV : validP (insL a K q) (insL l K u) (insL d K v)
    · rw [Bool.and_false]
    · rw [valid_ins hK hV]; rfl
  rw [eW J hJ.1] at eO
  by_cases e : I = J
  · subst e
    exact ⟨eO, fun _ => ⟨addL_ins hJ rfl, addL_ins hJ s3, addL_ins hJ s4⟩⟩
  · have key1 : validP (insL a J q) (insL l J u) (insL d J v) = false ∧ validP (insL a I q) (insL l I u) (insL d I v) = false := by
      cases hq : fin .f32 q
      · constructor
        · cases hV : validP (insL a J q) (insL l J u) (insL d J v)
          · rfl
          · have := within_fin (valid_ins hJ.1 hV); rw [hq] at this; cases this
        · cases hV : validP (insL a I q) (insL l I u) (insL d I v)
          · rfl
          · have := within_fin (valid_ins hI.1 hV); rw [hq] at this; cases this
      · have hA := valid_ang hv
        have hf : ∀ k, k < a.length → fin .f32 (a.getD k 0) = true := by
          intro k hk
          have := hA k hk
          unfold angStep at this
          rw [Bool.and_eq_true] at this
          exact within_fin this.1
        have hr : angs a a.length = true := by
          have h := hv
          rw [validP_yes (sized_of hv)] at h
          simp only [Bool.and_eq_true] at h
          exact h.1
        obtain ⟨i1, i2, i3⟩ := hI
        obtain ⟨j1, j2, j3⟩ := hJ
        have hIJ : I < J := by
          rcases Nat.lt_trichotomy I J with e' | e' | e'
          · exact e'
          · exact absurd e' e
          · have h1 := j3 (by omega)
            have h2 := i2 J e'
            simp only at h1 h2
            rw [lss_key hq (hf J (by omega))] at h1
            rw [geq_key (hf J (by omega)) hq] at h2
            have h1 := of_decide_eq_true h1
            have h2 := of_decide_eq_false h2
            omega
        have h1 := i3 (by omega)
        have h2 := j2 I hIJ
        simp only at h1 h2
        rw [geq_key (hf I (by omega)) hq] at h1
        rw [lss_key hq (hf I (by omega))] at h2
        have h1 := of_decide_eq_true h1
        have h2 := of_decide_eq_false h2
        constructor
        · cases hV : validP (insL a J q) (insL l J u) (insL d J v)
          · rfl
          · exfalso
            have h3 := valid_ang hV J (by rw [insL_length]; omega)
            unfold angStep at h3
            rw [Bool.and_eq_true, insL_at j1, insL_lt (show J - 1 < J by omega) j1, leq_key hq (hf _ (by omega))] at h3
            have h4 := angs_rise hr I (J - 1) (by omega) (by omega)
            have h5 := h3.2
            rw [decide_eq_true (show key q ≤ key (a.getD (J - 1) 0) by omega), show (J == 0) = false from by simp; omega] at h5
            cases h5
        · cases hV : validP (insL a I q) (insL l I u) (insL d I v)
          · rfl
          · exfalso
            have h3 := valid_ang hV (I + 1) (by rw [insL_length]; omega)
            unfold angStep at h3
            rw [Bool.and_eq_true, insL_next (by omega), show I + 1 - 1 = I from rfl, insL_at i1, leq_key (hf _ (by omega)) hq] at h3
            have h5 := h3.2
            rw [decide_eq_true (show key (a.getD I 0) ≤ key q by omega), show (I + 1 == 0) = false from rfl] at h5
            cases h5
    rw [key1.1] at eO
    rw [eO]
    exact ⟨key1.2.symm, fun h => by cases h⟩
end Go.Proofs.Ytplofbkollhjpaa
