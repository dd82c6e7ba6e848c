/- Bins of winds: in which one a quotient is. No statement is proved here. -/
import Derived.Test.YtpmjikchlofebaaAng
import Derived.Test.YtpmjikchlofebaaKey
import Derived.Test.YtpmjikchlofebaaExact
import Derived.Test.YtpmjikchlofebaaWin
namespace Go.Proofs.Ytpmjikchlofebaa
open Go Go.RowKit
/-- the whole part of a number that is not below 0; of what is beyond all: beyond all bins -/
def wholeF (q : Nat) : Nat := match FloatKind.f32.decode q with
  | .number _ m e => whole m e
  | _ => 1000
def binN (q : Nat) (c : Int) : Int := if c ≤ (wholeF q : Int) then c - 1 else (wholeF q : Int)
/-- not below 0 -/
def upD : Ieee.Datum → Prop
  | .number s m _ => s = false ∨ m = 0
  | .infinity s => s = false
  | .nan .. => False
theorem upD_word (f : Ieee.Format) {r : Nat} (h : r ≤ f.infRung) : upD (f.read (f.word false r)) := by
  have hs := f.infRung_lt
  have hr : r / f.signWeight = 0 := Nat.div_eq_of_lt (by omega)
  show upD (f.read r)
  unfold Ieee.Format.read
  simp only [hr]
  split
  · exact .inl rfl
  · split
    · exact .inl rfl
    · rw [if_pos (by rw [Nat.mod_eq_of_lt (by omega)] at *; omega)]; rfl
theorem upD_write (f : Ieee.Format) {s : Bool} {m : Nat} {e : Int} (h : s = false ∨ m = 0) (h0 : upD (f.read (f.word true 0))) : upD (f.read (f.write (.number s m e))) := by
  show upD (f.read (f.nearest s m e))
  unfold Ieee.Format.nearest
  split
  · cases s
    · exact upD_word f (Nat.zero_le _)
    · exact h0
  · rename_i hm
    rcases h with rfl | h
    · exact upD_word f (Nat.min_le_right ..)
    · exact absurd h hm
theorem up32 : upD (FloatKind.f32.format.read (FloatKind.f32.format.word true 0)) := by
  rw [show FloatKind.f32.format.read (FloatKind.f32.format.word true 0) = .number true 0 (-149) by decide +kernel]; exact .inr rfl
theorem up64 : upD (FloatKind.f64.format.read (FloatKind.f64.format.word true 0)) := by
  rw [show FloatKind.f64.format.read (FloatKind.f64.format.word true 0) = .number true 0 (-1074) by decide +kernel]; exact .inr rfl
theorem up_inf (f : Ieee.Format) : upD (f.read (f.write (.infinity false))) := upD_word f (Nat.le_refl _)
theorem amount_up {x : Nat} (h : amount x = true) : ∃ s m i, FloatKind.f32.format.read x = .number s m i ∧ (s = false ∨ m = 0) := by
  unfold amount at h
  rw [Bool.and_eq_true] at h
  obtain ⟨s, m, i, d⟩ := number_of_fin h.1
  refine ⟨s, m, i, d, ?_⟩
  cases s
  · exact .inl rfl
  · by_cases h0 : m = 0
    · exact .inr h0
    · exfalso
      have h2 := h.2
      unfold geq32 Ieee.Format.order at h2
      rw [d, show FloatKind.f32.format.read 0 = .number false 0 (-149) by decide +kernel] at h2
      have hp : 0 < m <<< (i - min i (-149)).toNat := by
        rw [Nat.shiftLeft_eq]
        exact Nat.mul_pos (by omega) (Nat.two_pow_pos _)
      have hlt : Ieee.signed true m (i - min i (-149)).toNat < Ieee.signed false 0 (-149 - min i (-149)).toNat := by
        unfold Ieee.signed
        simp only [Nat.zero_shiftLeft, if_true, Bool.false_eq_true, if_false]
        omega
      simp only [Ieee.Datum.order] at h2
      rw [show compare (Ieee.signed true m (i - min i (-149)).toNat) (Ieee.signed false 0 (-149 - min i (-149)).toNat) = .lt by simp only [compare, compareOfLessAndEq, if_pos hlt]] at h2
      exact absurd h2 (by decide)
theorem key0B : key 0 = 0 := by
  unfold key
  rw [show FloatKind.f32.decode 0 = .number false 0 (-149) by decide +kernel]; rfl
theorem posi_up {x : Nat} (h : posi x = true) : ∃ m i, FloatKind.f32.format.read x = .number false m i ∧ m ≠ 0 := by
  unfold posi at h
  rw [Bool.and_eq_true] at h
  obtain ⟨hf, h⟩ := h
  obtain ⟨s, m, e, hd⟩ := number_of_fin hf
  have hd' : FloatKind.f32.decode x = .number s m e := hd
  rw [gtr_key hf (by decide +kernel), key0B] at h
  have h := of_decide_eq_true h
  unfold key at h
  rw [hd'] at h
  simp only [] at h
  unfold Ieee.signed at h
  cases s
  · refine ⟨m, e, hd, fun h0 => ?_⟩
    subst h0
    simp at h
  · simp only [if_true] at h
    generalize m <<< (e + 149).toNat = z at h
    omega
/-- the quotient of a wind and a width: a number that is not below 0, or what is beyond all -/
theorem quo_up {x d : Nat} (hx : amount x = true) (hd : posi d = true) : upD (FloatKind.f32.decode (fop .quo .f32 x d)) := by
  obtain ⟨s, m, i, dx, hs⟩ := amount_up hx
  obtain ⟨n, j, dd, n0⟩ := posi_up hd
  have e : ∃ M e', fop .quo .f32 x d = FloatKind.f32.format.write (.number s M e') ∧ (m = 0 → M = 0) := by
    unfold fop floatBits Ieee.Format.div
    simp only []
    rw [dx, dd]
    simp only [Ieee.Datum.quotient, if_neg n0, Option.map_some, Option.getD_some, Bool.xor_false]
    exact ⟨_, _, canon_of_not (write_not_nan FloatKind.f32.format rfl), fun h => by subst h; simp⟩
  obtain ⟨M, e', e, h0⟩ := e
  rw [e]
  refine upD_write _ ?_ up32
  rcases hs with hs | rfl
  · exact .inl hs
  · exact .inr (h0 rfl)
theorem up_isn {q : Nat} (h : upD (FloatKind.f32.decode q)) : isn .f32 q = false := by
  unfold isn
  cases hd : FloatKind.f32.decode q with
  | nan s f => rw [hd] at h; exact h.elim
  | number s m e => rfl
  | infinity s => rfl
/-! ## how many there are -/
theorem cnt_key : ∀ c : Fin 17, key (floatOfInt .f32 (c.val : Int)) = c.val * 2 ^ 149 ∧ fin .f32 (floatOfInt .f32 (c.val : Int)) = true := by decide +kernel
theorem fl_small : ∀ s : Bool, ∀ n c : Fin 17, (s = false ∨ n.val = 0) → (FloatKind.f64.format.order (FloatKind.f64.encode (.number s n.val 0)) (floatOfInt .f64 (c.val : Int)) == some .lt) = decide ((n.val : Int) < c.val) ∧ floatToIntVal .f64 (FloatKind.f64.encode (.number s n.val 0)) .i64 = some (n.val : Int) := by decide +kernel
theorem inf_cnt : ∀ c : Fin 17, ((Ieee.Datum.infinity false).order (FloatKind.f32.format.read (floatOfInt .f32 (c.val : Int))) == some .gt) = true := by decide +kernel
theorem inf_floor : ∀ c : Fin 17, (FloatKind.f64.format.order (flo (FloatKind.f64.encode (.infinity false))) (floatOfInt .f64 (c.val : Int)) == some .lt) = false := by decide +kernel
theorem fl_great {W : Nat} (hW : 16 ≤ W) {c : Int} (h0 : 0 ≤ c) (hc : c ≤ 15) : (FloatKind.f64.format.order (FloatKind.f64.encode (.number false W 0)) (floatOfInt .f64 c) == some .lt) = false := by
  obtain ⟨t, ht⟩ := read_ofInt c (by omega)
  have ht' : FloatKind.f64.format.read (floatOfInt .f64 c) = .number (c < 0) (c.natAbs * 2 ^ t) (-(t : Int)) := ht
  rw [show decide (c < 0) = false from decide_eq_false (by omega)] at ht'
  have hu := upD_write FloatKind.f64.format (s := false) (m := W) (e := 0) (.inl rfl) up64
  unfold Ieee.Format.order
  rw [ht']
  have hr : ∀ s M E, FloatKind.f64.format.read (FloatKind.f64.format.write (.number false W 0)) = .number s M E → Ge2 M E 4 := fun s M E h =>
    write_ge fmt64 (k := 4) ⟨by rw [show ((0 : Int) - 4).toNat = 0 by decide, show ((4 : Int) - 0).toNat = 4 by decide]; omega, by omega⟩ (by decide) (by decide) h
  show ((FloatKind.f64.format.read (FloatKind.f64.format.write (.number false W 0))).order _ == some .lt) = false
  cases hd : FloatKind.f64.format.read (FloatKind.f64.format.write (.number false W 0)) with
  | nan s f => rw [hd] at hu; exact hu.elim
  | infinity s => rw [hd] at hu; cases (show s = false from hu); rfl
  | number s M E =>
    have hg := hr s M E hd
    rw [hd] at hu
    have hs : s = false := by
      rcases hu with h | h
      · exact h
      · exact absurd h hg.2
    subst hs
    simp only [Ieee.Datum.order]
    unfold Ieee.signed
    simp only [Nat.shiftLeft_eq, Bool.false_eq_true, if_false]
    obtain ⟨g1, g0⟩ := hg
    have h1 : c.natAbs * 2 ^ t * 2 ^ (-(t : Int) - min E (-(t : Int))).toNat ≤ 2 ^ (4 - min E (-(t : Int))).toNat := by
      rw [Nat.mul_assoc, ← Nat.pow_add, show (4 - min E (-(t : Int))).toNat = 4 + (t + (-(t : Int) - min E (-(t : Int))).toNat) by omega, Nat.pow_add 2 4]
      exact Nat.mul_le_mul_right _ (by omega)
    have h2 : 2 ^ (4 - min E (-(t : Int))).toNat ≤ M * 2 ^ (E - min E (-(t : Int))).toNat := by
      by_cases hE : E ≤ 4
      · rw [show (E - 4).toNat = 0 by omega, Nat.pow_zero, Nat.mul_one] at g1
        have h3 := Nat.mul_le_mul_right (2 ^ (E - min E (-(t : Int))).toNat) g1
        rw [← Nat.pow_add] at h3
        refine Nat.le_trans (Nat.le_of_eq ?_) h3
        exact congrArg (fun x => 2 ^ x) (by omega)
      · refine Nat.le_trans ?_ (Nat.le_mul_of_pos_left _ (Nat.pos_of_ne_zero g0))
        exact Nat.pow_le_pow_right (by decide) (by omega)
    have h4 : ¬ ((M * 2 ^ (E - min E (-(t : Int))).toNat : Nat) : Int) < ((c.natAbs * 2 ^ t * 2 ^ (-(t : Int) - min E (-(t : Int))).toNat : Nat) : Int) := by omega
    rcases Int.lt_trichotomy ((M * 2 ^ (E - min E (-(t : Int))).toNat : Nat) : Int) ((c.natAbs * 2 ^ t * 2 ^ (-(t : Int) - min E (-(t : Int))).toNat : Nat) : Int) with h | h | h
    · exact absurd h h4
    · rw [Int.compare_eq_eq.2 h]; rfl
    · rw [Int.compare_eq_gt.2 h]; rfl
/-! ## whole parts -/
theorem whole_key {m : Nat} {e : Int} (he : -149 ≤ e) : whole m e = (m * 2 ^ (e + 149).toNat) / 2 ^ 149 := by
  unfold whole
  by_cases h : 0 ≤ e
  · rw [show (-e).toNat = 0 by omega, Nat.pow_zero, Nat.div_one, show (e + 149).toNat = e.toNat + 149 by omega, Nat.pow_add, ← Nat.mul_assoc, Nat.mul_div_cancel _ (Nat.two_pow_pos _)]
  · rw [show e.toNat = 0 by omega, Nat.pow_zero, Nat.mul_one]
    have : (2 : Nat) ^ 149 = 2 ^ (-e).toNat * 2 ^ (e + 149).toNat := by rw [← Nat.pow_add]; exact congrArg (fun x => 2 ^ x) (by omega)
    rw [this, Nat.mul_div_mul_right _ _ (Nat.two_pow_pos _)]
theorem whole_shift (m g : Nat) (e : Int) : whole (m * 2 ^ g) (e - (g : Int)) = whole m e := by
  unfold whole
  by_cases h : 0 ≤ e
  · rw [show (-e).toNat = 0 by omega, Nat.pow_zero, Nat.div_one]
    have : m * 2 ^ g * 2 ^ (e - (g : Int)).toNat = m * 2 ^ e.toNat * 2 ^ (-(e - (g : Int))).toNat := by
      rw [Nat.mul_assoc, Nat.mul_assoc, ← Nat.pow_add, ← Nat.pow_add]
      exact congrArg (fun x => m * 2 ^ x) (by omega)
    rw [this, Nat.mul_div_cancel _ (Nat.two_pow_pos _)]
  · rw [show e.toNat = 0 by omega, show (e - (g : Int)).toNat = 0 by omega, Nat.pow_zero, Nat.mul_one, Nat.mul_one]
    have : (2 : Nat) ^ (-(e - (g : Int))).toNat = 2 ^ (-e).toNat * 2 ^ g := by rw [← Nat.pow_add]; exact congrArg (fun x => 2 ^ x) (by omega)
    rw [this, Nat.mul_div_mul_right _ _ (Nat.two_pow_pos _)]
theorem cut_downB (n drop : Nat) : Ieee.Toward.down.cut false n drop = n / 2 ^ drop := by
  rw [← cut_down false n drop]
  unfold Ieee.Toward.cut
  simp
theorem toInt_num (s : Bool) (m : Nat) (e : Int) : (Ieee.Datum.number s m e).toInt .zero = some (if s then -(whole m e : Int) else (whole m e : Int)) := by
  simp only [Ieee.Datum.toInt, Ieee.Datum.integral, cut_down, Nat.shiftLeft_eq]
  unfold Ieee.signed whole
  simp only [Nat.shiftLeft_zero]
theorem whole_zero (e : Int) : whole 0 e = 0 := by unfold whole; simp
theorem floor_num {q : Nat} {s : Bool} {m : Nat} {e : Int} (hd : FloatKind.f32.decode q = .number s m e) (hs : s = false ∨ m = 0) :
    flo (wide q) = FloatKind.f64.encode (.number s (wholeF q) 0) := by
  have hw : wholeF q = whole m e := by unfold wholeF; rw [hd]
  rw [hw]
  by_cases h0 : m = 0
  · subst h0
    rw [whole_zero]
    have hq : wide q = FloatKind.f64.format.word s 0 := by
      unfold wide
      rw [if_neg (by unfold isn; rw [hd]; simp [Ieee.Datum.isNaN]), hd]
      show FloatKind.f64.format.nearest s 0 e = _
      unfold Ieee.Format.nearest
      rw [if_pos rfl]
    rw [hq]
    cases s <;> decide +kernel
  · have hs0 : s = false := by rcases hs with h | h; exact h; exact absurd h h0
    subst hs0
    unfold flo
    rw [wide_decode hd h0]
    simp only [Ieee.Datum.integral, cut_downB, Nat.shiftLeft_eq]
    have := whole_shift m (52 - m.log2) e
    unfold whole at this
    rw [this]
    rfl
/-! ## what the walks ask -/
structure BinF (q : Nat) (c : Int) : Prop where
  g : geq32 q (floatOfInt .f32 c) = decide (c ≤ (wholeF q : Int))
  i : ¬ c ≤ (wholeF q : Int) → floatToIntVal .f32 q .i64 = some (wholeF q : Int)
  n : isn .f64 (wide q) = false
  l : (FloatKind.f64.format.order (flo (wide q)) (floatOfInt .f64 (c - 1)) == some .lt) = decide ((wholeF q : Int) < c - 1)
  k : (wholeF q : Int) < c - 1 → floatToIntVal .f64 (flo (wide q)) .i64 = some (wholeF q : Int)
theorem binF_of {q : Nat} {c : Int} (hq : upD (FloatKind.f32.decode q)) (h1 : 1 ≤ c) (h2 : c ≤ 16) : BinF q c := by
  obtain ⟨n, hn⟩ : ∃ n : Fin 17, (n.val : Int) = c := ⟨⟨c.toNat, by omega⟩, by show ((c.toNat : Nat) : Int) = c; omega⟩
  obtain ⟨n1, hn1⟩ : ∃ n : Fin 17, (n.val : Int) = c - 1 := ⟨⟨(c - 1).toNat, by omega⟩, by show (((c - 1).toNat : Nat) : Int) = c - 1; omega⟩
  cases hd : FloatKind.f32.decode q with
  | nan s f => rw [hd] at hq; exact hq.elim
  | infinity s =>
    rw [hd] at hq
    cases (show s = false from hq)
    have hw : wholeF q = 1000 := by unfold wholeF; rw [hd]
    have hwide : wide q = FloatKind.f64.encode (.infinity false) := by
      unfold wide
      rw [if_neg (by unfold isn; rw [hd]; simp [Ieee.Datum.isNaN]), hd]
    have hd' : FloatKind.f32.format.read q = .infinity false := hd
    refine ⟨?_, fun h => absurd h ?_, ?_, ?_, fun h => absurd h ?_⟩
    · have := inf_cnt n
      rw [hn] at this
      unfold geq32 Ieee.Format.order
      rw [hd', this, hw]
      exact (decide_eq_true (by omega)).symm
    · rw [hw]; simp; omega
    · rw [hwide]; decide +kernel
    · have := inf_floor n1
      rw [hn1] at this
      rw [hwide, this, hw]
      exact (decide_eq_false (by omega)).symm
    · rw [hw]; omega
  | number s m e =>
    have hs : s = false ∨ m = 0 := by rw [hd] at hq; exact hq
    obtain ⟨-, he, -, -⟩ := f32_norm hd
    have hf : fin .f32 q = true := by unfold fin; rw [hd]
    have hw : wholeF q = whole m e := by unfold wholeF; rw [hd]
    have hfl := floor_num hd hs
    have hsig : (if s then -(wholeF q : Int) else (wholeF q : Int)) = (wholeF q : Int) := by
      cases s
      · rfl
      · rcases hs with h | h
        · cases h
        · subst h; rw [hw, whole_zero]; rfl
    refine ⟨?_, fun h => ?_, ?_, ?_, fun h => ?_⟩
    · obtain ⟨k1, k2⟩ := cnt_key n
      rw [hn] at k1 k2
      have hk : key q = ((m * 2 ^ (e + 149).toNat : Nat) : Int) := by
        unfold key
        rw [hd]
        simp only []
        unfold Ieee.signed
        rw [Nat.shiftLeft_eq]
        rcases hs with rfl | rfl
        · rfl
        · simp
      have hiff : (key (floatOfInt .f32 c) ≤ key q) ↔ c ≤ (wholeF q : Int) := by
        rw [k1, hk, hw, whole_key he, ← hn]
        generalize m * 2 ^ (e + 149).toNat = K
        have := Nat.le_div_iff_mul_le (Nat.two_pow_pos 149) (x := n.val) (y := K)
        constructor
        · intro h
          have h3 : n.val ≤ K / 2 ^ 149 := this.2 (by exact_mod_cast h)
          exact_mod_cast h3
        · intro h
          have h3 : n.val ≤ K / 2 ^ 149 := by exact_mod_cast h
          exact_mod_cast this.1 h3
      unfold geq32
      rw [order_key hf k2, cmp_gt, cmp_eq]
      by_cases hh : c ≤ (wholeF q : Int)
      · rw [decide_eq_true hh]
        have := hiff.2 hh
        rcases Int.lt_or_eq_of_le this with h3 | h3
        · rw [decide_eq_true h3]; rfl
        · rw [h3]; simp
      · rw [decide_eq_false hh]
        have : ¬ key (floatOfInt .f32 c) ≤ key q := fun h => hh (hiff.1 h)
        rw [decide_eq_false (by omega), decide_eq_false (by omega)]; rfl
    · unfold floatToIntVal
      rw [hd, toInt_num, ← hw, hsig]
      have e1 : IntKind.i64.min = -9223372036854775808 := by decide
      have e2 : IntKind.i64.max = 9223372036854775807 := by decide
      simp only [e1, e2]
      rw [if_pos (by omega)]
    · rw [isn_wide]; unfold isn; rw [hd]; rfl
    · rw [hfl]
      by_cases hb : wholeF q ≤ 16
      · have := (fl_small s ⟨wholeF q, by omega⟩ n1 (by rcases hs with h | h; exact .inl h; right; show wholeF q = 0; rw [hw, h, whole_zero])).1
        rw [hn1] at this
        exact this
      · have hs0 : s = false := by
          rcases hs with h | h
          · exact h
          · rw [hw, h, whole_zero] at hb; omega
        subst hs0
        rw [fl_great (by omega) (by omega) (by omega)]
        exact (decide_eq_false (by omega)).symm
    · rw [hfl]
      exact (fl_small s ⟨wholeF q, by omega⟩ n1 (by rcases hs with h | h; exact .inl h; right; show wholeF q = 0; rw [hw, h, whole_zero])).2
theorem binN_in (q : Nat) {c : Int} (h1 : 1 ≤ c) : 0 ≤ binN q c ∧ binN q c < c := by
  unfold binN; split <;> omega
end Go.Proofs.Ytpmjikchlofebaa
