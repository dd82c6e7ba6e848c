/- The mathematics of wakes: bounds of what is finite. No statement is proved here. -/
import Derived.Test.YtmadlabnhjhfiaaBnd
import Derived.Test.YtmadlabnhjhfiaaSign
import Derived.Test.YtmadlabnhjhfiaaSinW
namespace Go.Proofs.Ytmadlabnhjhfiaa
open Go Go.RowKit
theorem bd_of_fin0 {x : Nat} {s : Bool} {m : Nat} {e : Int} (hd : FloatKind.f32.decode x = .number s m e) (h : e ≤ 60) : Bd .f32 84 x := by
  obtain ⟨h1, -, -, -⟩ := f32_norm hd
  exact ⟨s, m, e, hd, le2_of h1 (by omega)⟩
/-- a small number less any finite one is finite -/
theorem fin_sub_small {x t : Nat} (hx : Bd .f32 17 x) (ht : fin .f32 t = true) : fin .f32 (fop .sub .f32 x t) = true := by
  obtain ⟨s, M, E, hd⟩ := fin_number ht
  obtain ⟨h1, h2, h3, h4⟩ := f32_norm hd
  by_cases hE : 20 ≤ E
  · rw [sub_absorb hx hd (h4 (by omega)) (by omega) (by omega)]
    have hlt : (E - -149).toNat * 2 ^ 23 + M < FloatKind.f32.format.infRung := by
      rw [f32_inf]
      have : (E - -149).toNat ≤ 253 := by omega
      have := Nat.mul_le_mul_right (2 ^ 23) this
      have e3 : (2 : Nat) ^ (23 + 1) = 2 * 2 ^ 23 := by decide
      omega
    have hrd : FloatKind.f32.decode (FloatKind.f32.format.word (!s) ((E - -149).toNat * 2 ^ 23 + M)) = .number (!s) M E := read_rung fmt32 (!s) (by omega) (h4 (by omega)) h1 hlt
    unfold fin
    rw [hrd]
  · have bt : Bd .f32 84 t := bd_of_fin0 hd (by omega)
    exact bd_fin (bd_sub fmt32 (bd_mono hx (by decide)) bt (by decide) (by decide))
theorem fop_add_sub {x t : Nat} (hx : fin .f32 x = true) (ht : fin .f32 t = true) : fop .add .f32 t x = fop .sub .f32 x (Op.negFloat .f32 t) := by
  obtain ⟨s, m, e, da⟩ := fin_number hx
  obtain ⟨u, n, j, db⟩ := fin_number ht
  have da' : FloatKind.f32.format.read x = .number s m e := da
  have db' : FloatKind.f32.format.read t = .number u n j := db
  have dn : FloatKind.f32.format.read (Op.negFloat .f32 t) = .number (!u) n j := by
    have := read_neg .f32 t
    unfold FloatKind.decode at this
    rw [this, db']; rfl
  have e1 : floatBits .add .f32 t x = floatBits .sub .f32 x (Op.negFloat .f32 t) := by
    unfold floatBits Ieee.Format.add Ieee.Format.sub
    simp only []
    rw [da', db', dn]
    simp only [Ieee.Datum.opposite, Bool.not_not, Ieee.Datum.sum]
    rw [Int.min_comm j e, Int.add_comm (Ieee.signed u n (j - min e j).toNat), Bool.and_comm u s]
  unfold fop
  rw [e1]
theorem fin_negF {b : Nat} (h : fin .f32 b = true) : fin .f32 (Op.negFloat .f32 b) = true := by
  unfold fin at *
  rw [read_neg]
  cases hd : FloatKind.f32.decode b <;> rw [hd] at h <;> first | rfl | cases h
theorem bd_quarterF : Bd .f32 17 1048576000 := ⟨false, 8388608, -25, by decide +kernel, by unfold Le2; decide⟩
theorem fin_quarter {t : Nat} (ht : fin .f32 t = true) : fin .f32 (fop .add .f32 (canon .f32 t) (canon .f32 1048576000)) = true := by
  rw [canon_of_not (isn_of_fin ht), bd_canon bd_quarterF, fop_add_sub (bd_fin bd_quarterF) ht]
  exact fin_sub_small bd_quarterF (fin_negF ht)
theorem bd_sinC {t : Nat} (ht : fin .f32 t = true) : Bd .f32 65 (canon .f32 (sinT (canon .f32 t))) := by
  cases hfar : far (wide t)
  · rw [sinT_near ht hfar]
    have h := (narrow_bd (sinF_bd (fr_bd (sin_near ht hfar))) (by decide) (by decide)).2
    rw [bd_canon h]; exact h
  · rw [sinT_far ht hfar]
    exact ⟨false, 0, -149, by decide +kernel, le2_zero ..⟩
theorem bd_sin {t : Nat} (ht : fin .f32 t = true) : Bd .f32 65 (canon .f32 (sinT (canon .f32 t))) := bd_sinC ht
theorem bd_cos {t : Nat} (ht : fin .f32 t = true) : Bd .f32 65 (canon .f32 (sinT (fop .add .f32 (canon .f32 t) (canon .f32 1048576000)))) := by
  have h := bd_sinC (fin_quarter ht)
  rw [canon_fop] at h
  exact h
/-! ## one wake -/
def wkA (u v c s : Nat) : Nat := fop .add .f32 (fop .mul .f32 u c) (fop .mul .f32 v s)
def wkC (u v c s : Nat) : Nat := fop .sub .f32 (fop .mul .f32 v c) (fop .mul .f32 u s)
def wkW (r p a : Nat) : Nat := fop .add .f32 r (fop .mul .f32 p a)
def wkB (a c w : Nat) : Bool := leq32 a 0 || gtr32 (abs32 c) w
def wkK (d q : Nat) : Nat := fop .mul .f32 (fop .mul .f32 (fop .mul .f32 (canon .f32 1073741824) d) q) q
def wkV (r d p u v c s : Nat) : Nat := if wkB (wkA u v c s) (wkC u v c s) (wkW r p (wkA u v c s)) then 0 else wkK d (fop .quo .f32 r (wkW r p (wkA u v c s)))
theorem bd_wkA {u v c s : Nat} (hu : Bd .f32 18 u) (hv : Bd .f32 18 v) (hc : Bd .f32 65 c) (hs : Bd .f32 65 s) : Bd .f32 84 (wkA u v c s) :=
  bd_add fmt32 (bd_mul fmt32 hu hc (by decide) (by decide)) (bd_mul fmt32 hv hs (by decide) (by decide)) (by decide) (by decide)
theorem bd_wkC {u v c s : Nat} (hu : Bd .f32 18 u) (hv : Bd .f32 18 v) (hc : Bd .f32 65 c) (hs : Bd .f32 65 s) : Bd .f32 84 (wkC u v c s) :=
  bd_sub fmt32 (bd_mul fmt32 hv hc (by decide) (by decide)) (bd_mul fmt32 hu hs (by decide) (by decide)) (by decide) (by decide)
theorem gt0_num {x : Nat} (hf : fin .f32 x = true) (h : gtr32 x 0 = true) : ∃ m e, FloatKind.f32.decode x = .number false m e ∧ m ≠ 0 := by
  obtain ⟨s, m, e, hd⟩ := fin_number hf
  rw [gtr_key hf fin_zero, show key 0 = 0 by rw [key_num zero_decode]; decide, key_num hd] at h
  have h := of_decide_eq_true h
  unfold Ieee.signed at h
  cases s
  · refine ⟨m, e, hd, fun h0 => ?_⟩
    subst h0
    simp at h
  · simp only [if_true] at h
    generalize m <<< (e + 149).toNat = z at h
    omega
theorem posi_num {x : Nat} (h : posi x = true) : ∃ m e, FloatKind.f32.decode x = .number false m e ∧ m ≠ 0 := by
  unfold posi at h
  rw [Bool.and_eq_true] at h
  exact gt0_num h.1 h.2
/-- what is written of a number that is not nothing is not nothing -/
theorem write_some {s : Bool} {m : Nat} {e : Int} (h0 : m ≠ 0) (he : -149 ≤ e) {t : Bool} {m' : Nat} {e' : Int} (hr : FloatKind.f32.format.read (FloatKind.f32.format.write (.number s m e)) = .number t m' e') : m' ≠ 0 := by
  have hr' : FloatKind.f32.format.read (FloatKind.f32.format.nearest s m e) = .number t m' e' := hr
  unfold Ieee.Format.nearest at hr'
  rw [if_neg h0] at hr'
  simp only [f32_frac, f32_least, f32_binade, f32_inf] at hr'
  have hle : 2 ^ m.log2 ≤ m := Nat.log2_self_le h0
  generalize hl : m.log2 = l at *
  have key : ∀ r : Nat, 1 ≤ r → r ≤ 255 * 2 ^ 23 → FloatKind.f32.format.read (FloatKind.f32.format.word s r) = .number t m' e' → m' ≠ 0 := by
    intro r h1 h2 hh
    rcases Nat.lt_or_ge r (255 * 2 ^ 23) with h3 | h3
    · obtain ⟨M, E, hrd, hE, hR, -, h5⟩ := rung_parts fmt32 s (r := r) (by rw [f32_inf]; exact h3)
      rw [hrd] at hh
      simp only [Ieee.Datum.number.injEq] at hh
      obtain ⟨-, rfl, rfl⟩ := hh
      intro hM
      subst hM
      rcases h5 with h5 | h5
      · subst h5; simp at hR; omega
      · have := Nat.two_pow_pos 23; omega
    · have : r = FloatKind.f32.format.infRung := by rw [f32_inf]; omega
      rw [this] at hh
      have := read_word_both fmt32 (r := FloatKind.f32.format.infRung) (Nat.le_refl _)
      exfalso
      rcases this with ⟨M, E, h⟩ | h
      · have h6 := h false
        have : FloatKind.f32.format.read (FloatKind.f32.format.word false FloatKind.f32.format.infRung) = .infinity false := by decide +kernel
        rw [this] at h6; cases h6
      · rw [h s] at hh; cases hh
  refine key _ ?_ (Nat.min_le_right ..) hr'
  have hb : 0 < 2 ^ 23 := Nat.two_pow_pos 23
  by_cases hc : -149 < e + (l : Int) - 23
  · have h5 : 1 ≤ (max (e + (l : Int) - (23 : Nat)) (-149) - -149).toNat := by omega
    have := Nat.mul_le_mul_right (2 ^ 23) h5
    omega
  · have hd : (max (e + (l : Int) - (23 : Nat)) (-149) - e).toNat = 0 := by omega
    rw [hd, cut_zero]
    have := Nat.two_pow_pos (e - max (e + (l : Int) - (23 : Nat)) (-149)).toNat
    have h6 : 1 ≤ m <<< (e - max (e + (l : Int) - (23 : Nat)) (-149)).toNat := by rw [Nat.shiftLeft_eq]; exact Nat.mul_pos (Nat.pos_of_ne_zero h0) this
    omega
theorem ge2_some {m : Nat} {e : Int} (h0 : m ≠ 0) (he : -149 ≤ e) : Ge2 m e (-149) := by
  refine ⟨?_, h0⟩
  rw [show ((-149 : Int) - e).toNat = 0 by omega, Nat.pow_zero]
  exact Nat.mul_pos (Nat.pos_of_ne_zero h0) (Nat.two_pow_pos _)
/-- a positive number and one that is not negative: what their sum is at least -/
theorem add_bg {x y : Nat} {m n : Nat} {i j : Int} {t : Bool} (hx : FloatKind.f32.decode x = .number false m i) (h0 : m ≠ 0) (hy : FloatKind.f32.decode y = .number t n j) (ht : t = false ∨ n = 0) :
    (∃ s M E, FloatKind.f32.decode (fop .add .f32 x y) = .number s M E ∧ M ≠ 0 ∧ ∀ c : Int, -125 ≤ c → Ge2 m i c → Ge2 M E c) ∨ ∃ s, FloatKind.f32.decode (fop .add .f32 x y) = .infinity s := by
  have d1 : FloatKind.f32.format.read x = .number false m i := hx
  have d2 : FloatKind.f32.format.read y = .number t n j := hy
  obtain ⟨-, hi, -, -⟩ := f32_norm hx
  obtain ⟨-, hj, -, -⟩ := f32_norm hy
  have hA0 : 0 < m * 2 ^ (i - min i j).toNat := Nat.mul_pos (Nat.pos_of_ne_zero h0) (Nat.two_pow_pos _)
  have hsum : (Ieee.Datum.number false m i).sum (.number t n j) = some (.number false (m * 2 ^ (i - min i j).toNat + n * 2 ^ (j - min i j).toNat) (min i j)) := by
    simp only [Ieee.Datum.sum, Ieee.signed, Bool.false_eq_true, if_false, Nat.shiftLeft_eq, Bool.false_and]
    have e0 : (if t = true then -((n * 2 ^ (j - min i j).toNat : Nat) : Int) else ((n * 2 ^ (j - min i j).toNat : Nat) : Int)) = ((n * 2 ^ (j - min i j).toNat : Nat) : Int) := by
      rcases ht with rfl | rfl
      · rfl
      · simp
    rw [e0]
    generalize m * 2 ^ (i - min i j).toNat = A at *
    generalize n * 2 ^ (j - min i j).toNat = B at *
    have e1 : (if (A : Int) + (B : Int) = 0 then false else decide ((A : Int) + (B : Int) < 0)) = false := by
      split
      · rfl
      · exact decide_eq_false (by omega)
    have e2 : ((A : Int) + (B : Int)).natAbs = A + B := by omega
    rw [e1, e2]
  have hS0 : m * 2 ^ (i - min i j).toNat + n * 2 ^ (j - min i j).toNat ≠ 0 := by omega
  have hge : ∀ c : Int, Ge2 m i c → Ge2 (m * 2 ^ (i - min i j).toNat + n * 2 ^ (j - min i j).toNat) (min i j) c := by
    intro c hg
    obtain ⟨g1, g0⟩ := hg
    refine ⟨?_, hS0⟩
    refine Nat.le_trans (m := m * 2 ^ (i - min i j).toNat * 2 ^ (min i j - c).toNat) ?_ (Nat.mul_le_mul_right _ (Nat.le_add_right _ _))
    rw [Nat.mul_assoc, ← Nat.pow_add]
    by_cases hic : i ≤ c
    · rw [show (i - c).toNat = 0 by omega, Nat.pow_zero, Nat.mul_one] at g1
      have h1 := Nat.mul_le_mul_right (2 ^ (i - min i j).toNat) g1
      rw [← Nat.pow_add] at h1
      rw [show (min i j - c).toNat = 0 by omega, Nat.add_zero]
      refine Nat.le_trans (Nat.le_of_eq ?_) h1
      exact congrArg (fun x => 2 ^ x) (by omega)
    · refine Nat.le_trans ?_ (Nat.le_mul_of_pos_left _ (Nat.pos_of_ne_zero g0))
      exact Nat.pow_le_pow_right (by decide) (by omega)
  have eb : fop .add .f32 x y = FloatKind.f32.format.write (.number false (m * 2 ^ (i - min i j).toNat + n * 2 ^ (j - min i j).toNat) (min i j)) := by
    unfold fop floatBits Ieee.Format.add
    simp only []
    rw [d1, d2, hsum]
    simp only [Option.map_some, Option.getD_some]
    exact canon_of_not (write_not_nan FloatKind.f32.format rfl)
  rw [eb]
  show (∃ s M E, FloatKind.f32.format.read _ = .number s M E ∧ M ≠ 0 ∧ ∀ c : Int, -125 ≤ c → Ge2 m i c → Ge2 M E c) ∨ ∃ s, FloatKind.f32.format.read _ = .infinity s
  rcases read_write_both fmt32 (m * 2 ^ (i - min i j).toNat + n * 2 ^ (j - min i j).toNat) (min i j) with ⟨M, E, h⟩ | h
  · refine .inl ⟨false, M, E, h false, write_some hS0 (by omega) (h false), fun c hc hg => ?_⟩
    exact write_ge fmt32 (hge c hg) (by omega) (by decide) (h false)
  · exact .inr ⟨false, h false⟩
theorem within_fin {x a b : Nat} (ha : fin .f32 a = true) (hb : fin .f32 b = true) (h : within x a b = true) : fin .f32 x = true := by
  unfold within at h
  rw [Bool.and_eq_true] at h
  obtain ⟨h1, h2⟩ := h
  obtain ⟨s1, m1, e1, da⟩ := fin_number ha
  obtain ⟨s2, m2, e2, db⟩ := fin_number hb
  have da' : FloatKind.f32.format.read a = .number s1 m1 e1 := da
  have db' : FloatKind.f32.format.read b = .number s2 m2 e2 := db
  cases hd : FloatKind.f32.decode x with
  | number s m e => unfold fin; rw [hd]
  | nan s f =>
    unfold geq32 at h1
    rw [order_nan_left (isn_iff.2 ⟨s, f, hd⟩)] at h1
    cases h1
  | infinity s =>
    have hd' : FloatKind.f32.format.read x = .infinity s := hd
    cases s
    · unfold leq32 Ieee.Format.order at h2
      rw [hd', db'] at h2
      simp [Ieee.Datum.order] at h2
    · unfold geq32 Ieee.Format.order at h1
      rw [hd', da'] at h1
      simp [Ieee.Datum.order] at h1
theorem geq_key {a b : Nat} (ha : fin .f32 a = true) (hb : fin .f32 b = true) : geq32 a b = decide (key b ≤ key a) := by
  have h := lss_not_geq (isn_of_fin ha) (isn_of_fin hb)
  rw [lss_key ha hb] at h
  cases g : geq32 a b
  · rw [g] at h
    have := of_decide_eq_true h
    exact (decide_eq_false (by omega)).symm
  · rw [g] at h
    have := of_decide_eq_false h
    exact (decide_eq_true (by omega)).symm
theorem key_zero : key 0 = 0 := by rw [key_num zero_decode]; decide
theorem half_fin : fin .f32 1056964608 = true := by decide +kernel
theorem key_half : key 1056964608 = 2 ^ 148 := by
  rw [key_num (show FloatKind.f32.decode 1056964608 = .number false 8388608 (-24) by decide +kernel)]
  decide
theorem draw_bd {d : Nat} (h : within d 0 1056964608 = true) : Bd .f32 0 d := by
  have hf := within_fin fin_zero half_fin h
  unfold within at h
  rw [Bool.and_eq_true, geq_key hf fin_zero, leq_key hf half_fin, key_zero, key_half] at h
  have h1 := of_decide_eq_true h.1
  have h2 := of_decide_eq_true h.2
  refine bd_of_key hf (by decide) ?_
  have e1 : (2 : Nat) ^ ((0 : Int) + 149).toNat = 2 ^ 149 := rfl
  rw [e1]
  have e2 : (2 : Int) ^ 148 ≤ ((2 ^ 149 : Nat) : Int) := by decide
  generalize (2 : Int) ^ 148 = A at *
  generalize (2 : Nat) ^ 149 = B at *
  omega
theorem bd_two : Bd .f32 1 1073741824 := ⟨false, 8388608, -22, by decide +kernel, by unfold Le2; decide⟩
theorem quo_bd {r w : Nat} {m : Nat} {i : Int} (hr : FloatKind.f32.decode r = .number false m i) (h0 : m ≠ 0) (hw : (∃ s M E, FloatKind.f32.decode w = .number s M E ∧ M ≠ 0 ∧ ∀ c : Int, -125 ≤ c → Ge2 m i c → Ge2 M E c) ∨ ∃ s, FloatKind.f32.decode w = .infinity s) : Bd .f32 25 (fop .quo .f32 r w) := by
  rcases hw with ⟨s, M, E, hd, hM, hg⟩ | ⟨s, hd⟩
  · obtain ⟨-, hE, -, -⟩ := f32_norm hd
    have hk : Ge2 m i (i + m.log2) := by
      refine ⟨?_, h0⟩
      rw [show (i + (m.log2 : Int) - i).toNat = m.log2 by omega, show (i - (i + (m.log2 : Int))).toNat = 0 by omega, Nat.pow_zero, Nat.mul_one]
      exact Nat.log2_self_le h0
    have hl : Le2 m i (i + m.log2 + 1) := by
      refine ⟨?_, fun h => by omega⟩
      rw [show (i + (m.log2 : Int) + 1 - i).toNat = m.log2 + 1 by omega]
      exact Nat.le_of_lt Nat.lt_log2_self
    by_cases hc : -125 ≤ i + (m.log2 : Int)
    · have h1 : Bd .f32 (i + m.log2 + 1) r := ⟨false, m, i, hr, hl⟩
      have h2 : Bg .f32 (i + m.log2) w := ⟨s, M, E, hd, hg _ hc hk⟩
      have := bd_quo fmt32 h1 h2 (by omega) (by omega)
      exact bd_mono this (by omega)
    · have h1 : Bd .f32 (-125) r := ⟨false, m, i, hr, le2_mono hl (by omega)⟩
      have h2 : Bg .f32 (-149) w := ⟨s, M, E, hd, ge2_some hM hE⟩
      have := bd_quo fmt32 h1 h2 (by decide) (by decide)
      exact bd_mono this (by decide)
  · have d1 : FloatKind.f32.format.read r = .number false m i := hr
    have d2 : FloatKind.f32.format.read w = .infinity s := hd
    obtain ⟨t, e, he⟩ : ∃ t e, floatBits .quo .f32 r w = some (FloatKind.f32.encode (.number t 0 e)) := by
      unfold floatBits Ieee.Format.div
      simp only []
      rw [d1, d2]
      exact ⟨_, _, rfl⟩
    have hb : Bd .f32 25 (FloatKind.f32.encode (.number t 0 e)) := bd_write fmt32 (le2_zero e 25) (by decide) (by decide)
    unfold fop
    rw [he, Option.getD_some, bd_canon hb]
    exact hb
theorem isn_inf {x : Nat} {s : Bool} (h : FloatKind.f32.decode x = .infinity s) : isn .f32 x = false := by unfold isn; rw [h]; rfl
theorem isn_num {x : Nat} {s : Bool} {m : Nat} {e : Int} (h : FloatKind.f32.decode x = .number s m e) : isn .f32 x = false := by unfold isn; rw [h]; rfl
theorem add_inf {x y : Nat} {s : Bool} {m : Nat} {i : Int} (hx : FloatKind.f32.decode x = .number s m i) (hy : FloatKind.f32.format.read y = .infinity false) : fop .add .f32 x y = FloatKind.f32.format.write (.infinity false) := by
  have hx' : FloatKind.f32.format.read x = .number s m i := hx
  have hb : floatBits .add .f32 x y = some (FloatKind.f32.format.write (.infinity false)) := by
    unfold floatBits Ieee.Format.add
    simp only []
    rw [hx', hy]
    rfl
  unfold fop
  rw [hb]
  simp only [Option.getD_some]
  exact canon_of_not (write_not_nan FloatKind.f32.format rfl)
theorem wkW_facts {r p a : Nat} (hr : posi r = true) (hp : posi p = true) (ha : fin .f32 a = true) (hg : gtr32 a 0 = true) :
    isn .f32 (wkW r p a) = false ∧ Bd .f32 25 (fop .quo .f32 r (wkW r p a)) := by
  obtain ⟨m, i, dr, m0⟩ := posi_num hr
  obtain ⟨n, j, dp, n0⟩ := posi_num hp
  obtain ⟨o, k, da, o0⟩ := gt0_num ha hg
  have d1 : FloatKind.f32.format.read r = .number false m i := dr
  have d2 : FloatKind.f32.format.read p = .number false n j := dp
  have d3 : FloatKind.f32.format.read a = .number false o k := da
  have et : fop .mul .f32 p a = FloatKind.f32.format.write (.number false (n * o) (j + k)) := by
    unfold fop floatBits Ieee.Format.mul
    simp only []
    rw [d2, d3]
    simp only [Ieee.Datum.product, Option.map_some, Option.getD_some]
    exact canon_of_not (write_not_nan FloatKind.f32.format rfl)
  have hW : (∃ s M E, FloatKind.f32.decode (wkW r p a) = .number s M E ∧ M ≠ 0 ∧ ∀ c : Int, -125 ≤ c → Ge2 m i c → Ge2 M E c) ∨ ∃ s, FloatKind.f32.decode (wkW r p a) = .infinity s := by
    unfold wkW
    rcases read_write_both fmt32 (n * o) (j + k) with ⟨M, E, h⟩ | h
    · have h1 := h false
      rw [← et] at h1
      exact add_bg dr m0 h1 (.inl rfl)
    · right
      have h1 := h false
      rw [← et] at h1
      rw [add_inf dr h1]
      exact ⟨false, by decide +kernel⟩
  refine ⟨?_, quo_bd dr m0 hW⟩
  rcases hW with ⟨s, M, E, h, -⟩ | ⟨s, h⟩
  · exact isn_num h
  · exact isn_inf h
theorem wkK_bd {d q : Nat} (hd : Bd .f32 0 d) (hq : Bd .f32 25 q) : Bd .f32 51 (wkK d q) := by
  unfold wkK
  rw [bd_canon bd_two]
  exact bd_mul fmt32 (bd_mul fmt32 (bd_mul fmt32 bd_two hd (by decide) (by decide)) hq (by decide) (by decide)) hq (by decide) (by decide)
theorem bd_zeroF (j : Int) : Bd .f32 j 0 := ⟨false, 0, -149, zero_decode, le2_zero ..⟩
/-- a wake is not great -/
theorem wkV_bd {r d p u v c s : Nat} (hr : posi r = true) (hp : posi p = true) (hd : within d 0 1056964608 = true) (hu : Bd .f32 18 u) (hv : Bd .f32 18 v) (hc : Bd .f32 65 c) (hs : Bd .f32 65 s) : Bd .f32 51 (wkV r d p u v c s) := by
  unfold wkV
  split
  · exact bd_zeroF _
  · rename_i h
    have ha := bd_fin (bd_wkA hu hv hc hs)
    unfold wkB at h
    simp only [Bool.or_eq_true, not_or] at h
    have hg : gtr32 (wkA u v c s) 0 = true := by
      rw [gtr_not_leq (isn_of_fin ha) (isn_of_fin fin_zero)]
      simp [h.1]
    exact wkK_bd (draw_bd hd) (wkW_facts hr hp ha hg).2
end Go.Proofs.Ytmadlabnhjhfiaa
