/- Farms, put together No statement is proved here. -/
import Derived.Test.YtknabmknboffgaaGreatDoorAir
import Derived.Test.YtknabmknboffgaaGreatDoorInv3
import Derived.Test.YtknabmknboffgaaGreatDoorProf
import Derived.Test.YtknabmknboffgaaGreatDoorNum
import Derived.Test.YtknabmknboffgaaGreatDoorBits
import Derived.Test.YtknabmknboffgaaGreatDoorSums
import Derived.Test.YtknabmknboffgaaGreatDoorInv4
import Derived.Test.YtknabmknboffgaaGreatDoorMarkR
import Derived.Test.YtknabmknboffgaaGreatDoorApp
import Derived.Lib.SliceRun
import Derived.Lib.AppendZeros
import Derived.LoopTactic
import Derived.RegionTactic
import Derived.BigRegion
namespace Go.Proofs.YtknabmknboffgaaGreatDoor
open Go Go.RowKit
def samN1 (x y : Nat) : Bool := decide (canon .f32 x = canon .f32 y)
def airS (d h s k d' h' s' k' : Nat) : Bool := samN1 d d' && (samN1 h h' && (samN1 s s' && samN1 k k'))
def spdQ (h s k z : Nat) : Nat := if amount z then onlyN (spdV h s k z) else 0
def spdO (d h s k z : Nat) : Bool := airV d h s k && (amount z && fin .f32 (spdV h s k z))
def spdR (d h s k z : Nat) : Nat := if airV d h s k && amount z then onlyN (spdV h s k z) else 0
def denO (d h s k z : Nat) : Bool := airV d h s k && (amount z && fin .f32 (denV d z))
def denR (d h s k z : Nat) : Nat := if airV d h s k && amount z then onlyN (denV d z) else 0
def powO (d s : Nat) : Bool := amount d && (amount s && fin .f32 (powV d s))
def powR (d s : Nat) : Nat := if amount d && amount s then onlyN (powV d s) else 0
end Go.Proofs.YtknabmknboffgaaGreatDoor
namespace Go.Proofs.YtknabmknboffgaaGreatDoor
open Go Go.RowKit
theorem number_of_fin {k : FloatKind} {x : Nat} (hx : fin k x = true) : ∃ s m i, k.format.read x = .number s m i := by
  cases h1 : k.decode x with
  | nan s f => unfold fin at hx; rw [h1] at hx; cases hx
  | infinity s => unfold fin at hx; rw [h1] at hx; cases hx
  | number s m i => exact ⟨s, m, i, h1⟩
theorem fin_inf (k : FloatKind) (s : Bool) : fin k (k.encode (.infinity s)) = false := by cases k <;> cases s <;> decide +kernel
theorem num_or {k : FloatKind} (x : Nat) : fin k x = true ∨ (∃ s, k.format.read x = .infinity s) ∨ ∃ s f, k.format.read x = .nan s f := by
  cases h1 : k.decode x with
  | nan s f => exact .inr (.inr ⟨s, f, h1⟩)
  | infinity s => exact .inr (.inl ⟨s, h1⟩)
  | number s m i => left; unfold fin; rw [h1]
theorem fin_fop {k : FloatKind} {op : BinOp} {x y : Nat} (h : fin k (fop op k x y) = true) : ∃ d, floatBits op k x y = some d ∧ fin k d = true := by
  unfold fop at h
  rw [fin_canon] at h
  cases hf : floatBits op k x y with
  | some d => rw [hf] at h; exact ⟨d, rfl, h⟩
  | none => rw [hf] at h; rw [Option.getD_none, fin_of_nan (isn_qnan k)] at h; cases h
theorem sum_fin {k : FloatKind} {x y : Nat} (h : fin k (fop .add k x y) = true) : fin k x = true ∧ fin k y = true := by
  obtain ⟨d, hd, hf⟩ := fin_fop h
  unfold floatBits Ieee.Format.add at hd
  simp only [] at hd
  rcases num_or (k := k) x with hx | ⟨s, hx⟩ | ⟨s, f, hx⟩
  · rcases num_or (k := k) y with hy | ⟨t, hy⟩ | ⟨t, g, hy⟩
    · exact ⟨hx, hy⟩
    · obtain ⟨s, m, i, dx⟩ := number_of_fin hx
      rw [dx, hy] at hd
      simp only [Ieee.Datum.sum, Option.map_some, Option.some.injEq] at hd
      subst hd
      rw [show fin k (k.format.write (.infinity t)) = false from fin_inf k t] at hf; cases hf
    · obtain ⟨s, m, i, dx⟩ := number_of_fin hx
      rw [dx, hy] at hd
      cases hd
  · rcases num_or (k := k) y with hy | ⟨t, hy⟩ | ⟨t, g, hy⟩
    · obtain ⟨t, m, i, dy⟩ := number_of_fin hy
      rw [dy, hx] at hd
      simp only [Ieee.Datum.sum, Option.map_some, Option.some.injEq] at hd
      subst hd
      rw [show fin k (k.format.write (.infinity s)) = false from fin_inf k s] at hf; cases hf
    · rw [hx, hy] at hd
      simp only [Ieee.Datum.sum] at hd
      split at hd
      · simp only [Option.map_some, Option.some.injEq] at hd
        subst hd
        rw [show fin k (k.format.write (.infinity s)) = false from fin_inf k s] at hf; cases hf
      · cases hd
    · rw [hx, hy] at hd
      cases hd
  · rw [hx] at hd
    cases hy : k.format.read y <;> rw [hy] at hd <;> cases hd
theorem diff_fin {k : FloatKind} {x y : Nat} (h : fin k (fop .sub k x y) = true) : fin k x = true ∧ fin k y = true := by
  obtain ⟨d, hd, hf⟩ := fin_fop h
  unfold floatBits Ieee.Format.sub at hd
  simp only [] at hd
  rcases num_or (k := k) x with hx | ⟨s, hx⟩ | ⟨s, f, hx⟩
  · rcases num_or (k := k) y with hy | ⟨t, hy⟩ | ⟨t, g, hy⟩
    · exact ⟨hx, hy⟩
    · obtain ⟨s, m, i, dx⟩ := number_of_fin hx
      rw [dx, hy] at hd
      simp only [Ieee.Datum.opposite, Ieee.Datum.sum, Option.map_some, Option.some.injEq] at hd
      subst hd
      rw [show fin k (k.format.write (.infinity (!t))) = false from fin_inf k _] at hf; cases hf
    · obtain ⟨s, m, i, dx⟩ := number_of_fin hx
      rw [dx, hy] at hd
      cases hd
  · rcases num_or (k := k) y with hy | ⟨t, hy⟩ | ⟨t, g, hy⟩
    · obtain ⟨t, m, i, dy⟩ := number_of_fin hy
      rw [dy, hx] at hd
      simp only [Ieee.Datum.opposite, Ieee.Datum.sum, Option.map_some, Option.some.injEq] at hd
      subst hd
      rw [show fin k (k.format.write (.infinity s)) = false from fin_inf k s] at hf; cases hf
    · rw [hx, hy] at hd
      simp only [Ieee.Datum.opposite, Ieee.Datum.sum] at hd
      split at hd
      · simp only [Option.map_some, Option.some.injEq] at hd
        subst hd
        rw [show fin k (k.format.write (.infinity s)) = false from fin_inf k s] at hf; cases hf
      · cases hd
    · rw [hx, hy] at hd
      cases hd
  · rw [hx] at hd
    cases hy : k.format.read y <;> rw [hy] at hd <;> cases hd
theorem mulL_not_fin {k : FloatKind} {x y : Nat} (hx : fin k x = false) : fin k (fop .mul k x y) = false := by
  cases h : fin k (fop .mul k x y)
  · rfl
  · obtain ⟨d, hd, hf⟩ := fin_fop h
    unfold floatBits Ieee.Format.mul at hd
    simp only [] at hd
    rcases num_or (k := k) x with h1 | ⟨s, h1⟩ | ⟨s, f, h1⟩
    · rw [h1] at hx; cases hx
    · rcases num_or (k := k) y with hy | ⟨t, hy⟩ | ⟨t, g, hy⟩
      · obtain ⟨t, m, i, dy⟩ := number_of_fin hy
        rw [h1, dy] at hd
        simp only [Ieee.Datum.product] at hd
        split at hd
        · cases hd
        · simp only [Option.map_some, Option.some.injEq] at hd
          subst hd
          rw [show fin k (k.format.write (.infinity _)) = false from fin_inf k _] at hf; cases hf
      · rw [h1, hy] at hd
        simp only [Ieee.Datum.product, Option.map_some, Option.some.injEq] at hd
        subst hd
        rw [show fin k (k.format.write (.infinity _)) = false from fin_inf k _] at hf; cases hf
      · rw [h1, hy] at hd
        cases hd
    · rw [h1] at hd
      cases hy : k.format.read y <;> rw [hy] at hd <;> cases hd
theorem mulR_not_fin {k : FloatKind} {x y : Nat} (hy : fin k y = false) : fin k (fop .mul k x y) = false := by
  cases h : fin k (fop .mul k x y)
  · rfl
  · obtain ⟨d, hd, hf⟩ := fin_fop h
    unfold floatBits Ieee.Format.mul at hd
    simp only [] at hd
    rcases num_or (k := k) y with h1 | ⟨s, h1⟩ | ⟨s, f, h1⟩
    · rw [h1] at hy; cases hy
    · rcases num_or (k := k) x with hx | ⟨t, hx⟩ | ⟨t, g, hx⟩
      · obtain ⟨t, m, i, dx⟩ := number_of_fin hx
        rw [h1, dx] at hd
        simp only [Ieee.Datum.product] at hd
        split at hd
        · cases hd
        · simp only [Option.map_some, Option.some.injEq] at hd
          subst hd
          rw [show fin k (k.format.write (.infinity _)) = false from fin_inf k _] at hf; cases hf
      · rw [h1, hx] at hd
        simp only [Ieee.Datum.product, Option.map_some, Option.some.injEq] at hd
        subst hd
        rw [show fin k (k.format.write (.infinity _)) = false from fin_inf k _] at hf; cases hf
      · rw [h1, hx] at hd
        cases hd
    · rw [h1] at hd
      cases hx : k.format.read x <;> rw [hx] at hd <;> cases hd
theorem quoL_not_fin {k : FloatKind} {x y : Nat} (hx : fin k x = false) : fin k (fop .quo k x y) = false := by
  cases h : fin k (fop .quo k x y)
  · rfl
  · obtain ⟨d, hd, hf⟩ := fin_fop h
    unfold floatBits Ieee.Format.div at hd
    simp only [] at hd
    rcases num_or (k := k) x with h1 | ⟨s, h1⟩ | ⟨s, f, h1⟩
    · rw [h1] at hx; cases hx
    · rcases num_or (k := k) y with hy | ⟨t, hy⟩ | ⟨t, g, hy⟩
      · obtain ⟨t, m, i, dy⟩ := number_of_fin hy
        rw [h1, dy] at hd
        simp only [Ieee.Datum.quotient, Option.map_some, Option.some.injEq] at hd
        subst hd
        rw [show fin k (k.format.write (.infinity _)) = false from fin_inf k _] at hf; cases hf
      · rw [h1, hy] at hd
        cases hd
      · rw [h1, hy] at hd
        cases hd
    · rw [h1] at hd
      cases hy : k.format.read y <;> rw [hy] at hd <;> cases hd
theorem addR_not_fin {k : FloatKind} {x y : Nat} (hy : fin k y = false) : fin k (fop .add k x y) = false := by
  cases h : fin k (fop .add k x y)
  · rfl
  · rw [(sum_fin h).2] at hy; cases hy
theorem subR_not_fin {k : FloatKind} {x y : Nat} (hy : fin k y = false) : fin k (fop .sub k x y) = false := by
  cases h : fin k (fop .sub k x y)
  · rfl
  · rw [(diff_fin h).2] at hy; cases hy
theorem subL_not_fin {k : FloatKind} {x y : Nat} (hx : fin k x = false) : fin k (fop .sub k x y) = false := by
  cases h : fin k (fop .sub k x y)
  · rfl
  · rw [(diff_fin h).1] at hx; cases hx
theorem addL_not_fin {k : FloatKind} {x y : Nat} (hx : fin k x = false) : fin k (fop .add k x y) = false := by
  cases h : fin k (fop .add k x y)
  · rfl
  · rw [(sum_fin h).1] at hx; cases hx
end Go.Proofs.YtknabmknboffgaaGreatDoor
namespace Go.Proofs.YtknabmknboffgaaGreatDoor
open Go Go.RowKit

/-- a number with few digits is written as it is -/
theorem read_exact {f : Ieee.Format} {p : Nat} {L top : Int} (F : Fmt f p L top) (s : Bool) {m : Nat} {e : Int} (hm : m < 2 ^ (p + 1)) (hL : L ≤ e) (htop : e + m.log2 + 1 ≤ top) (hp : L + p + 1 ≤ top) :
    ∃ t : Nat, f.read (f.write (.number s m e)) = .number s (m * 2 ^ t) (e - t) := by
  show ∃ t : Nat, f.read (f.nearest s m e) = .number s (m * 2 ^ t) (e - t)
  have hsw := f.infRung_lt
  have hsw0 : 0 < f.signWeight := Nat.two_pow_pos _
  have hp0 : 0 < 2 ^ p := Nat.two_pow_pos p
  have hread : ∀ r : Nat, r < f.infRung → f.read (f.word s r) = if r < 2 ^ p then .number s r L else .number s (2 ^ p + r % 2 ^ p) (L + ((r / 2 ^ p - 1 : Nat) : Int)) := by
    intro r hr
    have hmod : f.word s r % f.signWeight = r := by
      unfold Ieee.Format.word; split
      · rw [Nat.add_mod_left, Nat.mod_eq_of_lt (by omega)]
      · rw [Nat.mod_eq_of_lt (by omega)]
    have hneg : (f.word s r / f.signWeight % 2 == 1) = s := by
      unfold Ieee.Format.word
      cases s
      · simp [Nat.div_eq_of_lt (show r < f.signWeight by omega)]
      · simp only [if_true]
        rw [Nat.add_comm, Nat.add_div_right _ hsw0, Nat.div_eq_of_lt (by omega)]; rfl
    unfold Ieee.Format.read
    simp only [hmod, hneg, F.bin, F.least, if_pos hr]
  unfold Ieee.Format.nearest
  by_cases h0 : m = 0
  · subst h0
    rw [if_pos rfl, hread 0 (F.inf 0 (Nat.zero_le _)), if_pos hp0]
    exact ⟨(e - L).toNat, by rw [Nat.zero_mul]; congr 1; omega⟩
  · rw [if_neg h0]
    have hlt : m < 2 ^ (m.log2 + 1) := Nat.lt_log2_self
    have hle : 2 ^ m.log2 ≤ m := Nat.log2_self_le h0
    have hl : m.log2 ≤ p := by
      have := (Nat.log2_lt h0 (k := p + 1)).2 hm
      omega
    simp only [F.frac, F.least, F.bin]
    generalize m.log2 = l at *
    generalize hlast : max (e + (l : Int) - (p : Int)) L = last
    have h1 : last ≤ e := by omega
    rw [show (last - e).toNat = 0 by omega, cut_zero, Nat.shiftLeft_eq]
    generalize ht : (e - last).toNat = t
    have hte : e - (t : Int) = last := by omega
    have hup : m * 2 ^ t < 2 ^ (p + 1) := by
      calc m * 2 ^ t < 2 ^ (l + 1) * 2 ^ t := Nat.mul_lt_mul_of_pos_right hlt (Nat.two_pow_pos _)
        _ = 2 ^ (l + 1 + t) := (Nat.pow_add ..).symm
        _ ≤ _ := Nat.pow_le_pow_right (by decide) (by omega)
    have e3 : 2 ^ (p + 1) = 2 * 2 ^ p := by rw [Nat.pow_succ, Nat.mul_comm]
    have hr : (last - L).toNat * 2 ^ p + m * 2 ^ t < f.infRung := by
      refine F.inf _ ?_
      have e4 : (last - L).toNat + 2 ≤ (top - L - p + 1).toNat := by omega
      have e5 := Nat.mul_le_mul_right (2 ^ p) e4
      rw [Nat.add_mul] at e5
      omega
    rw [Nat.min_eq_left (Nat.le_of_lt hr), hread _ hr]
    refine ⟨t, ?_⟩
    rw [hte]
    generalize hM : m * 2 ^ t = M at *
    by_cases hz : last = L
    · subst hz
      rw [show (last - last).toNat = 0 by omega, Nat.zero_mul, Nat.zero_add]
      by_cases hs : M < 2 ^ p
      · rw [if_pos hs]
      · rw [if_neg hs]
        have q1 : M / 2 ^ p = 1 := by
          refine Nat.div_eq_of_lt_le ?_ ?_ <;> omega
        have q2 := Nat.div_add_mod M (2 ^ p)
        rw [q1, Nat.mul_one] at q2
        rw [q1, q2]; simp
    · have hn : 2 ^ p ≤ M := by
        have e6 : last = e + l - p := by omega
        have e7 : l + t = p := by omega
        rw [← hM, ← e7, Nat.pow_add]
        exact Nat.mul_le_mul_right _ hle
      generalize hg : (last - L).toNat = g
      have hg1 : 1 ≤ g := by omega
      have hbig : ¬ g * 2 ^ p + M < 2 ^ p := by omega
      rw [if_neg hbig]
      have q1 : (g * 2 ^ p + M) / 2 ^ p = g + 1 := by
        rw [Nat.mul_comm, Nat.mul_add_div hp0]
        have : M / 2 ^ p = 1 := by
          refine Nat.div_eq_of_lt_le ?_ ?_ <;> omega
        omega
      have q2 : (g * 2 ^ p + M) % 2 ^ p = M - 2 ^ p := by
        rw [Nat.mul_comm, Nat.mul_add_mod, Nat.mod_eq_sub_mod hn, Nat.mod_eq_of_lt (by omega)]
      rw [q1, q2]
      congr 1 <;> omega

/-- a whole number that float64 has -/
theorem read_ofInt (n : Int) (h : n.natAbs < 2 ^ 53) : ∃ t : Nat, FloatKind.f64.decode (floatOfInt .f64 n) = .number (n < 0) (n.natAbs * 2 ^ t) (-(t : Int)) := by
  have hl : n.natAbs.log2 ≤ 52 := by
    by_cases h0 : n.natAbs = 0
    · rw [h0]; decide
    · have := (Nat.log2_lt h0 (k := 53)).2 h
      omega
  obtain ⟨t, ht⟩ := read_exact fmt64 (decide (n < 0)) (m := n.natAbs) (e := 0) h (by omega) (by omega) (by decide)
  exact ⟨t, by rw [show -(t : Int) = 0 - t by omega]; exact ht⟩

/-- the integer that is left when the places behind the point are cut off -/
def toI (x : Nat) : Int := ((FloatKind.f64.decode x).toInt .zero).getD 0

theorem cut_down (neg : Bool) (n drop : Nat) : Ieee.Toward.zero.cut neg n drop = n / 2 ^ drop := by
  unfold Ieee.Toward.cut
  simp only [Nat.one_shiftLeft]
  show n / 2 ^ min drop (n.log2 + 2) + 0 = _
  by_cases hd : drop ≤ n.log2 + 2
  · rw [Nat.min_eq_left hd]
    rfl
  · rw [Nat.min_eq_right (by omega), Nat.add_zero]
    have hlt : n < 2 ^ (n.log2 + 1) := Nat.lt_log2_self
    rw [Nat.div_eq_of_lt (Nat.lt_of_lt_of_le hlt (Nat.pow_le_pow_right (by decide) (by omega))),
      Nat.div_eq_of_lt (Nat.lt_of_lt_of_le hlt (Nat.pow_le_pow_right (by decide) (by omega)))]

/-- the whole part of 'm * 2 ^ e' -/
def whole (m : Nat) (e : Int) : Nat := (m * 2 ^ e.toNat) / 2 ^ (-e).toNat

theorem toI_number {x : Nat} {s : Bool} {m : Nat} {e : Int} (h : FloatKind.f64.decode x = .number s m e) : (FloatKind.f64.decode x).toInt .zero = some (if s then -(whole m e : Int) else (whole m e : Int)) := by
  rw [h]
  simp only [Ieee.Datum.toInt, Ieee.Datum.integral, cut_down, Nat.shiftLeft_eq]
  unfold Ieee.signed whole
  simp only [Nat.shiftLeft_zero]

theorem whole_le {m : Nat} {e k : Int} (h : Le2 m e k) (hk : 0 ≤ k) : whole m e ≤ 2 ^ k.toNat := by
  unfold whole
  by_cases h0 : m = 0
  · subst h0; simp
  have hke : e ≤ k := by
    rcases Int.lt_or_le k e with h' | h'
    · exact absurd (h.2 h') h0
    · exact h'
  by_cases he : 0 ≤ e
  · rw [show (-e).toNat = 0 by omega, Nat.pow_zero, Nat.div_one]
    calc m * 2 ^ e.toNat ≤ 2 ^ (k - e).toNat * 2 ^ e.toNat := Nat.mul_le_mul_right _ h.1
      _ = 2 ^ k.toNat := by rw [← Nat.pow_add]; exact congrArg (fun x => 2 ^ x) (by omega)
  · rw [show e.toNat = 0 by omega, Nat.pow_zero, Nat.mul_one]
    refine Nat.div_le_of_le_mul ?_
    rw [← Nat.pow_add]
    exact Nat.le_trans h.1 (Nat.pow_le_pow_right (by decide) (by omega))

theorem toI_bd {x : Nat} {k : Int} (h : Bd .f64 k x) (hk : 0 ≤ k) : (toI x).natAbs ≤ 2 ^ k.toNat ∧ (FloatKind.f64.decode x).toInt .zero = some (toI x) := by
  obtain ⟨s, m, e, hd, hl⟩ := h
  have h1 := toI_number hd
  have h2 : toI x = if s then -(whole m e : Int) else (whole m e : Int) := by unfold toI; rw [h1]; rfl
  have h3 := whole_le hl hk
  refine ⟨?_, by rw [h1, h2]⟩
  rw [h2]
  generalize whole m e = q at h3 ⊢
  cases s <;> simp <;> omega

theorem toI_val {x : Nat} (h : Bd .f64 62 x) : floatToIntVal .f64 x .i64 = some (toI x) := by
  obtain ⟨h1, h2⟩ := toI_bd h (by decide)
  unfold floatToIntVal
  rw [h2]
  have h3 : (toI x).natAbs ≤ 4611686018427387904 := h1
  have e1 : IntKind.i64.min = -9223372036854775808 := by decide
  have e2 : IntKind.i64.max = 9223372036854775807 := by decide
  simp only [e1, e2]
  rw [if_pos (by omega)]

/-- what is left of a number behind the point: less than 1 -/
theorem part_le {m q : Nat} {e base : Int} {u : Nat} (hq : q = whole m e) (hb : base ≤ e) (hu : -(u : Int) - base = ((-(u : Int) - base).toNat : Int)) (hb0 : base ≤ 0) :
    (((m * 2 ^ (e - base).toNat : Nat) : Int) - ((q * 2 ^ u * 2 ^ (-(u : Int) - base).toNat : Nat) : Int)).natAbs ≤ 2 ^ (0 - base).toNat := by
  have e1 : q * 2 ^ u * 2 ^ (-(u : Int) - base).toNat = q * 2 ^ (0 - base).toNat := by
    rw [Nat.mul_assoc, ← Nat.pow_add]; exact congrArg (fun x => q * 2 ^ x) (by omega)
  rw [e1]
  subst hq
  unfold whole
  by_cases he : 0 ≤ e
  · rw [show (-e).toNat = 0 by omega, Nat.pow_zero, Nat.div_one, Nat.mul_assoc, ← Nat.pow_add, show e.toNat + (0 - base).toNat = (e - base).toNat by omega]
    simp
  · rw [show e.toNat = 0 by omega, Nat.pow_zero, Nat.mul_one]
    have e2 : 2 ^ (0 - base).toNat = 2 ^ (-e).toNat * 2 ^ (e - base).toNat := by
      rw [← Nat.pow_add]; exact congrArg (fun x => 2 ^ x) (by omega)
    rw [e2]
    generalize 2 ^ (e - base).toNat = A
    have h1 := Nat.div_add_mod m (2 ^ (-e).toNat)
    have h2 := Nat.mod_lt m (Nat.two_pow_pos (-e).toNat)
    generalize 2 ^ (-e).toNat = B at *
    generalize m / B = Q at *
    have h3 : Q * (B * A) = (B * Q) * A := by rw [← Nat.mul_assoc, Nat.mul_comm Q B]
    have h4 : m * A = (B * Q) * A + (m % B) * A := by rw [← Nat.add_mul, h1]
    have h5 : (m % B) * A ≤ B * A := Nat.mul_le_mul_right _ (Nat.le_of_lt h2)
    rw [h3, h4]
    omega

theorem frac_bd {x : Nat} (h : Bd .f64 52 x) : Bd .f64 0 (fop .sub .f64 x (floatOfInt .f64 (toI x))) := by
  obtain ⟨hi, -⟩ := toI_bd h (by decide)
  obtain ⟨s, m, e, hd, hl⟩ := h
  have h1 := toI_number hd
  have h2 : toI x = if s then -(whole m e : Int) else (whole m e : Int) := by unfold toI; rw [h1]; rfl
  have hi' : (toI x).natAbs < 2 ^ 53 := Nat.lt_of_le_of_lt hi (by decide)
  obtain ⟨u, hu⟩ := read_ofInt (toI x) hi'
  have hn : (toI x).natAbs = whole m e := by rw [h2]; cases s <;> simp
  rw [hn] at hu
  generalize hq : whole m e = q at *
  have d1 : FloatKind.f64.format.read x = .number s m e := hd
  have d2 : FloatKind.f64.format.read (floatOfInt .f64 (toI x)) = .number (toI x < 0) (q * 2 ^ u) (-(u : Int)) := hu
  -- the difference, exactly
  obtain ⟨t, n, base, hsum, hle⟩ : ∃ t n base, (Ieee.Datum.number s m e).sum (Ieee.Datum.number (toI x < 0) (q * 2 ^ u) (-(u : Int))).opposite = some (.number t n base) ∧ Le2 n base 0 := by
    refine ⟨_, _, _, rfl, ?_⟩
    generalize hb : min e (-(u : Int)) = base
    have key := part_le (m := m) (q := q) (e := e) (base := base) (u := u) hq.symm (by omega) (by omega) (by omega)
    refine ⟨?_, fun hh => by omega⟩
    refine Nat.le_trans (Nat.le_of_eq ?_) key
    unfold Ieee.signed
    rw [Nat.shiftLeft_eq, Nat.shiftLeft_eq]
    generalize hA : m * 2 ^ (e - base).toNat = A at *
    generalize hB : q * 2 ^ u * 2 ^ (-(u : Int) - base).toNat = B at *
    have hs : toI x = if s then -(q : Int) else (q : Int) := h2
    cases s
    · have : ¬ toI x < 0 := by rw [hs]; simp
      simp [this]; omega
    · by_cases hq0 : q = 0
      · have hB0 : B = 0 := by rw [← hB, hq0]; simp
        rw [hB0]; split <;> split <;> simp_all
      · have : toI x < 0 := by rw [hs]; simp; omega
        simp [this]; omega
  have hb := bd_write fmt64 (s := t) hle (by decide) (by decide)
  have e1 : floatBits .sub .f64 x (floatOfInt .f64 (toI x)) = some (FloatKind.f64.encode (.number t n base)) := by
    unfold floatBits Ieee.Format.sub
    rw [d1, d2]
    exact congrArg (Option.map FloatKind.f64.format.write) hsum
  unfold fop
  rw [e1, Option.getD_some, bd_canon hb]; exact hb


/-! ## sines -/

def frD (x : Nat) : Nat := fop .sub .f64 x (floatOfInt .f64 (toI x))
def frNeg (x : Nat) : Bool := FloatKind.f64.format.order (frD x) 0 == some .lt
/-- what is left of turns behind the point, not less than 0 -/
def fr (x : Nat) : Nat := if frNeg x then fop .add .f64 (frD x) 4607182418800017408 else frD x
def below (f : Nat) : Bool := FloatKind.f64.format.order f 4602678819172646912 == some .gt || FloatKind.f64.format.order f 4602678819172646912 == some .eq
def red1 (f : Nat) : Nat := if below f then fop .sub .f64 f 4602678819172646912 else f
def over4 (f : Nat) : Bool := FloatKind.f64.format.order f 4598175219545276416 == some .gt
def red (f : Nat) : Nat := if over4 (red1 f) then fop .sub .f64 4602678819172646912 (red1 f) else red1 f
def ang (f : Nat) : Nat := fop .mul .f64 (red f) 4618760256179416344
def sqr (z : Nat) : Nat := fop .mul .f64 z z
def den (j : Nat) : Int := 2 * (8 - j) * (2 * (8 - j) + 1)
def pol (u : Nat) : Nat → Nat
  | 0 => 4607182418800017408
  | j + 1 => fop .sub .f64 4607182418800017408 (fop .quo .f64 (fop .mul .f64 u (pol u j)) (floatOfInt .f64 (den j)))
def sinP (f : Nat) : Nat := fop .mul .f64 (ang f) (pol (sqr (ang f)) 8)
/-- the sine of a part of a turn -/
def sinF (f : Nat) : Nat := if below f then Op.negFloat .f64 (sinP f) else sinP f

/-- an operation that makes no not-a-number -/
theorem fop_sure {op : BinOp} {k : FloatKind} {x y : Nat} (h : isn k (fop op k x y) = false) : (∀ w, fopV op k x y w = fop op k x y) ∧ fopN op k x y = 0 := by
  unfold fop fopV fopN at *
  cases hb : floatBits op k x y with
  | none => rw [hb, Option.getD_none, isn_canon, isn_qnan] at h; cases h
  | some r =>
    rw [hb, Option.getD_some, isn_canon] at h
    exact ⟨fun _ => by rw [Option.getD_some, Option.getD_some, canon_of_not h], rfl⟩
theorem bd_sure {op : BinOp} {k : FloatKind} {j : Int} {x y : Nat} (h : Bd k j (fop op k x y)) : (∀ w, fopV op k x y w = fop op k x y) ∧ fopN op k x y = 0 := fop_sure (bd_not_nan h)

theorem bd_one : Bd .f64 0 4607182418800017408 := ⟨false, 4503599627370496, -52, by decide +kernel, by unfold Le2; decide⟩
theorem bd_half : Bd .f64 0 4602678819172646912 := ⟨false, 4503599627370496, -53, by decide +kernel, by unfold Le2; decide⟩
theorem bd_circle : Bd .f64 3 4618760256179416344 := ⟨false, 7074237752028440, -50, by decide +kernel, by unfold Le2; decide⟩
theorem bg_circle : Bg .f64 2 4618760256179416344 := ⟨false, 7074237752028440, -50, by decide +kernel, by unfold Ge2; decide⟩

theorem fr_bd {x : Nat} (h : Bd .f64 52 x) : Bd .f64 1 (fr x) := by
  have h0 := frac_bd h
  unfold fr; split
  · exact bd_add fmt64 h0 bd_one (by decide) (by decide)
  · exact bd_mono h0 (by decide)
theorem red1_bd {f : Nat} (h : Bd .f64 1 f) : Bd .f64 2 (red1 f) := by
  unfold red1; split
  · exact bd_sub fmt64 h (bd_mono bd_half (by decide)) (by decide) (by decide)
  · exact bd_mono h (by decide)
theorem red_bd {f : Nat} (h : Bd .f64 1 f) : Bd .f64 3 (red f) := by
  unfold red; split
  · exact bd_sub fmt64 (bd_mono bd_half (by decide)) (red1_bd h) (by decide) (by decide)
  · exact bd_mono (red1_bd h) (by decide)
theorem ang_bd {f : Nat} (h : Bd .f64 1 f) : Bd .f64 6 (ang f) := bd_mul fmt64 (red_bd h) bd_circle (by decide) (by decide)
theorem sqr_bd {f : Nat} (h : Bd .f64 1 f) : Bd .f64 12 (sqr (ang f)) := bd_mul fmt64 (ang_bd h) (ang_bd h) (by decide) (by decide)

/-- how great the j-th p is at most, and what it is divided by at least -/
def polB : Nat → Int
  | 0 => 0 | 1 => 5 | 2 => 11 | 3 => 17 | 4 => 24 | 5 => 31 | 6 => 39 | 7 => 48 | _ => 59
def denB : Nat → Int
  | 0 => 8 | 1 => 7 | 2 => 7 | 3 => 6 | 4 => 6 | 5 => 5 | 6 => 4 | _ => 2

theorem den_bg : ∀ j : Nat, j < 8 → Bg .f64 (denB j) (floatOfInt .f64 (den j)) := by
  intro j hj
  have : j = 0 ∨ j = 1 ∨ j = 2 ∨ j = 3 ∨ j = 4 ∨ j = 5 ∨ j = 6 ∨ j = 7 := by omega
  rcases this with rfl | rfl | rfl | rfl | rfl | rfl | rfl | rfl
  · exact ⟨false, 4785074604081152, -44, by decide +kernel, by unfold Ge2; decide⟩
  · exact ⟨false, 7388718138654720, -45, by decide +kernel, by unfold Ge2; decide⟩
  · exact ⟨false, 5488762045857792, -45, by decide +kernel, by unfold Ge2; decide⟩
  · exact ⟨false, 7740561859543040, -46, by decide +kernel, by unfold Ge2; decide⟩
  · exact ⟨false, 5066549580791808, -46, by decide +kernel, by unfold Ge2; decide⟩
  · exact ⟨false, 5910974510923776, -47, by decide +kernel, by unfold Ge2; decide⟩
  · exact ⟨false, 5629499534213120, -48, by decide +kernel, by unfold Ge2; decide⟩
  · exact ⟨false, 6755399441055744, -50, by decide +kernel, by unfold Ge2; decide⟩

theorem pol_step {u p : Nat} {j : Nat} {a : Int} (hu : Bd .f64 12 u) (hj : j < 8) (hp : Bd .f64 a p) (h0 : 0 ≤ a) (h1 : a ≤ 100) :
    Bd .f64 (12 + a) (fop .mul .f64 u p) ∧ Bd .f64 (12 + a - denB j) (fop .quo .f64 (fop .mul .f64 u p) (floatOfInt .f64 (den j))) ∧
    Bd .f64 (12 + a - denB j + 1) (fop .sub .f64 4607182418800017408 (fop .quo .f64 (fop .mul .f64 u p) (floatOfInt .f64 (den j)))) := by
  have hd : 2 ≤ denB j ∧ denB j ≤ 8 := by
    have : j = 0 ∨ j = 1 ∨ j = 2 ∨ j = 3 ∨ j = 4 ∨ j = 5 ∨ j = 6 ∨ j = 7 := by omega
    rcases this with rfl | rfl | rfl | rfl | rfl | rfl | rfl | rfl <;> decide
  have b1 := bd_mul fmt64 hu hp (by omega) (by omega)
  have b2 := bd_quo fmt64 b1 (den_bg j hj) (by omega) (by omega)
  exact ⟨b1, b2, bd_sub fmt64 (bd_mono bd_one (by omega)) b2 (by omega) (by omega)⟩

theorem pol_bd {u : Nat} (hu : Bd .f64 12 u) : ∀ j, j ≤ 8 → Bd .f64 (polB j) (pol u j)
  | 0, _ => bd_one
  | j + 1, hj => by
    have ih := pol_bd hu j (by omega)
    have hs := (pol_step (j := j) hu (by omega) ih (by
      have : j = 0 ∨ j = 1 ∨ j = 2 ∨ j = 3 ∨ j = 4 ∨ j = 5 ∨ j = 6 ∨ j = 7 := by omega
      rcases this with rfl | rfl | rfl | rfl | rfl | rfl | rfl | rfl <;> decide) (by
      have : j = 0 ∨ j = 1 ∨ j = 2 ∨ j = 3 ∨ j = 4 ∨ j = 5 ∨ j = 6 ∨ j = 7 := by omega
      rcases this with rfl | rfl | rfl | rfl | rfl | rfl | rfl | rfl <;> decide)).2.2
    refine bd_mono hs ?_
    have : j = 0 ∨ j = 1 ∨ j = 2 ∨ j = 3 ∨ j = 4 ∨ j = 5 ∨ j = 6 ∨ j = 7 := by omega
    rcases this with rfl | rfl | rfl | rfl | rfl | rfl | rfl | rfl <;> decide

theorem sinP_bd {f : Nat} (h : Bd .f64 1 f) : Bd .f64 65 (sinP f) := bd_mul fmt64 (ang_bd h) (pol_bd (sqr_bd h) 8 (by decide)) (by decide) (by decide)

theorem xor_sign (b n : Nat) : (b ^^^ 2 ^ n) % 2 ^ n = b % 2 ^ n ∧ ((b ^^^ 2 ^ n) / 2 ^ n % 2 == 1) = !(b / 2 ^ n % 2 == 1) := by
  constructor
  · rw [Nat.xor_mod_two_pow, Nat.mod_self, Nat.xor_zero]
  · have e : (b ^^^ 2 ^ n) / 2 ^ n = (b / 2 ^ n) ^^^ 1 := by
      rw [← Nat.shiftRight_eq_div_pow, Nat.shiftRight_xor_distrib, Nat.shiftRight_eq_div_pow, Nat.shiftRight_eq_div_pow, Nat.div_self (Nat.two_pow_pos n)]
    rw [e]
    have h2 : ((b / 2 ^ n) ^^^ 1) % 2 = (b / 2 ^ n) % 2 ^^^ 1 := by
      have := Nat.xor_mod_two_pow (a := b / 2 ^ n) (b := 1) (n := 1)
      simpa using this
    rw [h2]
    rcases Nat.mod_two_eq_zero_or_one (b / 2 ^ n) with h | h <;> rw [h] <;> rfl

theorem read_neg (k : FloatKind) (b : Nat) : k.decode (Op.negFloat k b) = (k.decode b).opposite := by
  obtain ⟨h1, h2⟩ := xor_sign b (k.format.exponentBits + k.format.fractionBits)
  unfold FloatKind.decode Op.negFloat Ieee.Format.read Ieee.Format.signWeight
  simp only [h1, h2]
  split
  · rfl
  · split
    · rfl
    · split <;> rfl

theorem isn_neg (k : FloatKind) (b : Nat) : isn k (Op.negFloat k b) = isn k b := by
  unfold isn; rw [read_neg]; cases k.decode b <;> rfl

theorem bd_neg {k : FloatKind} {j : Int} {b : Nat} (h : Bd k j b) : Bd k j (Op.negFloat k b) := by
  obtain ⟨s, m, e, hd, hl⟩ := h
  exact ⟨!s, m, e, by rw [read_neg, hd]; rfl, hl⟩

theorem sinF_bd {f : Nat} (h : Bd .f64 1 f) : Bd .f64 65 (sinF f) := by
  unfold sinF; split
  · exact bd_neg (sinP_bd h)
  · exact sinP_bd h

/-! ## how far from 0 -/

theorem c52_read : FloatKind.f64.decode 4841369599423283200 = .number false 4503599627370496 0 := by decide +kernel
theorem m52_read : FloatKind.f64.decode 14064741636278059008 = .number true 4503599627370496 0 := by decide +kernel

def far (x : Nat) : Bool := FloatKind.f64.format.order (fabs x) 4841369599423283200 == some .gt || FloatKind.f64.format.order (fabs x) 4841369599423283200 == some .eq

theorem order_numbers {k : FloatKind} {x y : Nat} {s t : Bool} {m n : Nat} {i j : Int} (hx : k.decode x = .number s m i) (hy : k.decode y = .number t n j) :
    k.format.order x y = some (compare (Ieee.signed s m (i - min i j).toNat) (Ieee.signed t n (j - min i j).toNat)) := by
  have d1 : k.format.read x = .number s m i := hx
  have d2 : k.format.read y = .number t n j := hy
  unfold Ieee.Format.order
  rw [d1, d2]; rfl

theorem cmp_gt (a b : Int) : (some (compare a b) == some Ordering.gt) = decide (b < a) := by
  rcases Int.lt_trichotomy a b with h | h | h
  · rw [Int.compare_eq_lt.2 h, decide_eq_false (by omega)]; rfl
  · rw [Int.compare_eq_eq.2 h, decide_eq_false (by omega)]; rfl
  · rw [Int.compare_eq_gt.2 h, decide_eq_true h]; rfl
theorem cmp_lt (a b : Int) : (some (compare a b) == some Ordering.lt) = decide (a < b) := by
  rcases Int.lt_trichotomy a b with h | h | h
  · rw [Int.compare_eq_lt.2 h, decide_eq_true h]; rfl
  · rw [Int.compare_eq_eq.2 h, decide_eq_false (by omega)]; rfl
  · rw [Int.compare_eq_gt.2 h, decide_eq_false (by omega)]; rfl
theorem cmp_eq (a b : Int) : (some (compare a b) == some Ordering.eq) = decide (a = b) := by
  rcases Int.lt_trichotomy a b with h | h | h
  · rw [Int.compare_eq_lt.2 h, decide_eq_false (by omega)]; rfl
  · rw [Int.compare_eq_eq.2 h, decide_eq_true h]; rfl
  · rw [Int.compare_eq_gt.2 h, decide_eq_false (by omega)]; rfl

theorem far_parts {x : Nat} {s : Bool} {m : Nat} {e : Int} (h : FloatKind.f64.decode x = .number s m e) :
    far x = decide (4503599627370496 * 2 ^ (0 - min e 0).toNat ≤ m * 2 ^ (e - min e 0).toNat) ∧
    (FloatKind.f64.format.order x 4841369599423283200 == some .gt || FloatKind.f64.format.order x 4841369599423283200 == some .eq || (FloatKind.f64.format.order x 14064741636278059008 == some .lt || FloatKind.f64.format.order x 14064741636278059008 == some .eq)) = far x := by
  have ha : FloatKind.f64.decode (fabs x) = .number false m e := by rw [read_fabs, h]; rfl
  have e1 : far x = decide (4503599627370496 * 2 ^ (0 - min e 0).toNat ≤ m * 2 ^ (e - min e 0).toNat) := by
    unfold far
    rw [order_numbers ha c52_read]
    simp only [cmp_gt, cmp_eq, Ieee.signed, Bool.false_eq_true, if_false, Nat.shiftLeft_eq]
    rw [Bool.eq_iff_iff]; simp only [Bool.or_eq_true, decide_eq_true_eq]; omega
  refine ⟨e1, ?_⟩
  rw [e1, order_numbers h c52_read, order_numbers h m52_read]
  simp only [cmp_gt, cmp_lt, cmp_eq, Ieee.signed, Bool.false_eq_true, if_false, if_true, Nat.shiftLeft_eq]
  have hp : 0 < 2 ^ (0 - min e 0).toNat := Nat.two_pow_pos _
  generalize 2 ^ (0 - min e 0).toNat = B at *
  generalize m * 2 ^ (e - min e 0).toNat = A at *
  cases s
  · rw [Bool.eq_iff_iff]; simp only [Bool.false_eq_true, if_false, Bool.or_eq_true, decide_eq_true_eq]; omega
  · rw [Bool.eq_iff_iff]; simp only [if_true, Bool.or_eq_true, decide_eq_true_eq]; omega

theorem near_bd {x : Nat} (hf : fin .f64 x = true) (h : far x = false) : Bd .f64 52 x := by
  cases hd : FloatKind.f64.decode x with
  | nan s f => unfold fin at hf; rw [hd] at hf; cases hf
  | infinity s => unfold fin at hf; rw [hd] at hf; cases hf
  | number s m e =>
    refine ⟨s, m, e, hd, ?_⟩
    rw [(far_parts hd).1] at h
    have h' := of_decide_eq_false h
    by_cases he : 0 ≤ e
    · rw [show min e 0 = 0 by omega, show ((0 : Int) - 0).toNat = 0 by rfl, Int.sub_zero, Nat.pow_zero, Nat.mul_one] at h'
      have hlt : m * 2 ^ e.toNat < 2 ^ 52 := by
        have : (2 : Nat) ^ 52 = 4503599627370496 := by decide
        omega
      have := (le2_shift (m := m) (e := e) (k := 52) e.toNat).1 ⟨by rw [show e - (e.toNat : Int) = 0 by omega]; exact Nat.le_of_lt hlt, fun hh => by omega⟩
      exact this
    · rw [show min e 0 = e by omega, Int.sub_self, show (0 : Int).toNat = 0 by rfl, Nat.pow_zero, Nat.mul_one] at h'
      refine ⟨?_, fun hh => by omega⟩
      have e2 : 2 ^ (52 - e).toNat = 4503599627370496 * 2 ^ (0 - e).toNat := by
        rw [show (4503599627370496 : Nat) = 2 ^ 52 by decide, ← Nat.pow_add]; exact congrArg (fun x => 2 ^ x) (by omega)
      rw [e2]; omega

/-- what the walk of a sine needs, case by case -/
structure SinFacts (f : Nat) : Prop where
  z1 : ∀ w, fopV .mul .f64 (red f) 4618760256179416344 w = ang f
  z2 : fopN .mul .f64 (red f) 4618760256179416344 = 0
  u1 : ∀ w, fopV .mul .f64 (ang f) (ang f) w = sqr (ang f)
  u2 : fopN .mul .f64 (ang f) (ang f) = 0
  r1 : ∀ w, fopV .mul .f64 (ang f) (pol (sqr (ang f)) 8) w = sinP f
  r2 : fopN .mul .f64 (ang f) (pol (sqr (ang f)) 8) = 0
theorem sinFacts {f : Nat} (h : Bd .f64 1 f) : SinFacts f where
  z1 := (bd_sure (ang_bd h)).1
  z2 := (bd_sure (ang_bd h)).2
  u1 := (bd_sure (sqr_bd h)).1
  u2 := (bd_sure (sqr_bd h)).2
  r1 := (bd_sure (sinP_bd h)).1
  r2 := (bd_sure (sinP_bd h)).2

theorem red1_no {f : Nat} (h : below f = false) : red1 f = f := by unfold red1; rw [h]; rfl
theorem red1_yes {f : Nat} (h : below f = true) : fop .sub .f64 f 4602678819172646912 = red1 f := by unfold red1; rw [h]; rfl
theorem red_no {f : Nat} (h : over4 (red1 f) = false) : red f = red1 f := by unfold red; rw [h]; rfl
theorem red_yes {f : Nat} (h : over4 (red1 f) = true) : fop .sub .f64 4602678819172646912 (red1 f) = red f := by unfold red; rw [h]; rfl
theorem sinF_no {f : Nat} (h : below f = false) : sinF f = sinP f := by unfold sinF; rw [h]; rfl
theorem sinF_yes {f : Nat} (h : below f = true) : sinF f = Op.negFloat .f64 (sinP f) := by unfold sinF; rw [h]; rfl
theorem red1_sure {f : Nat} (h : Bd .f64 1 f) (hb : below f = true) : (∀ w, fopV .sub .f64 f 4602678819172646912 w = red1 f) ∧ fopN .sub .f64 f 4602678819172646912 = 0 := by
  have h1 := red1_bd h
  rw [← red1_yes hb] at h1 ⊢
  exact bd_sure h1
theorem red_sure {f : Nat} (h : Bd .f64 1 f) (ho : over4 (red1 f) = true) : (∀ w, fopV .sub .f64 4602678819172646912 (red1 f) w = red f) ∧ fopN .sub .f64 4602678819172646912 (red1 f) = 0 := by
  have h1 := red_bd h
  rw [← red_yes ho] at h1 ⊢
  exact bd_sure h1

/-- the facts of one round -/
theorem pol_sure {u : Nat} (hu : Bd .f64 12 u) (j : Nat) (hj : j < 8) :
    ((∀ w, fopV .mul .f64 u (pol u j) w = fop .mul .f64 u (pol u j)) ∧ fopN .mul .f64 u (pol u j) = 0) ∧
    ((∀ w, fopV .quo .f64 (fop .mul .f64 u (pol u j)) (floatOfInt .f64 (den j)) w = fop .quo .f64 (fop .mul .f64 u (pol u j)) (floatOfInt .f64 (den j))) ∧ fopN .quo .f64 (fop .mul .f64 u (pol u j)) (floatOfInt .f64 (den j)) = 0) ∧
    ((∀ w, fopV .sub .f64 4607182418800017408 (fop .quo .f64 (fop .mul .f64 u (pol u j)) (floatOfInt .f64 (den j))) w = pol u (j + 1)) ∧ fopN .sub .f64 4607182418800017408 (fop .quo .f64 (fop .mul .f64 u (pol u j)) (floatOfInt .f64 (den j))) = 0) := by
  have hb := pol_bd hu j (by omega)
  obtain ⟨a, b, c⟩ := pol_step hu hj hb (by
      have : j = 0 ∨ j = 1 ∨ j = 2 ∨ j = 3 ∨ j = 4 ∨ j = 5 ∨ j = 6 ∨ j = 7 := by omega
      rcases this with rfl | rfl | rfl | rfl | rfl | rfl | rfl | rfl <;> decide) (by
      have : j = 0 ∨ j = 1 ∨ j = 2 ∨ j = 3 ∨ j = 4 ∨ j = 5 ∨ j = 6 ∨ j = 7 := by omega
      rcases this with rfl | rfl | rfl | rfl | rfl | rfl | rfl | rfl <;> decide)
  exact ⟨bd_sure a, bd_sure b, bd_sure c⟩

@[go_sem] theorem unary_neg_float (k : FloatKind) (b : Nat) : Op.unary .neg (.float k b) = pure (.float k (Op.negFloat k b)) := rfl
@[go_sem] theorem unary_neg_complex (k : FloatKind) (a b : Nat) : Op.unary .neg (.complex k a b) = pure (.complex k (Op.negFloat k a) (Op.negFloat k b)) := rfl
theorem den_0 : den 0 = 272 := by decide
theorem den_1 : den 1 = 210 := by decide
theorem den_2 : den 2 = 156 := by decide
theorem den_3 : den 3 = 110 := by decide
theorem den_4 : den 4 = 72 := by decide
theorem den_5 : den 5 = 42 := by decide
theorem den_6 : den 6 = 20 := by decide
theorem den_7 : den 7 = 6 := by decide


theorem sub_self_sure {k : FloatKind} {y : Nat} (h : fin k y = true) : (∀ w, fopV .sub k y y w = 0) ∧ fopN .sub k y y = 0 := by
  unfold fopV fopN
  rw [sub_self_fin, h]
  exact ⟨fun _ => rfl, rfl⟩
theorem sub_self_nan {k : FloatKind} {y : Nat} (h : fin k y = false) : ∀ w z, k.format.order (fopV .sub k y y w) z = none := by
  intro w z
  refine order_nan_left ?_
  unfold fopV
  rw [sub_self_fin, h]
  exact cut_nanBits ..

theorem wide_sure {b : Nat} (h : isn .f32 b = false) : (∀ w, wideV b w = wide b) ∧ wideN b = 0 := by
  unfold wideV wide wideN
  simp [h]
theorem fin_wide (b : Nat) : fin .f64 (wide b) = fin .f32 b := by
  cases h : isn .f32 b
  · rw [← (wide_sure h).1 default, fin_wideV]
  · rw [fin_of_nan h, fin_of_nan (by rw [isn_wide, h])]
theorem not_nan_of_fin {k : FloatKind} {b : Nat} (h : fin k b = true) : isn k b = false := by
  cases hn : isn k b
  · rfl
  · rw [fin_of_nan hn] at h; cases h
theorem narrow_sure {b : Nat} (h : isn .f64 b = false) (ho : over b = false) : (∀ w, narrowV b w = narrow b) ∧ narrowN b = 0 := by
  unfold narrowV narrow narrowN
  simp [h, ho]
theorem narrow_bd_sure {j : Int} {b : Nat} (h : Bd .f64 j b) (hlo : -125 ≤ j) (hhi : j ≤ 127) : (∀ w, narrowV b w = narrow b) ∧ narrowN b = 0 :=
  narrow_sure (bd_not_nan h) (narrow_bd h hlo hhi).1
theorem isn_narrowV {b : Nat} (w : World) (h : isn .f64 b = true) : isn .f32 (narrowV b w) = true := by
  unfold narrowV; rw [if_pos h]; exact cut_nanConv ..

/-- the sine of a 32-bit number of turns -/
def sinT (b : Nat) : Nat := if fin .f32 b then if far (wide b) then 0 else narrow (sinF (fr (wide b))) else qnan .f32
theorem fin_qnan (k : FloatKind) : fin k (qnan k) = false := fin_of_nan (isn_qnan k)
theorem sinT_nan {b : Nat} (h : fin .f32 b = false) : sinT (canon .f32 b) = qnan .f32 := by
  unfold sinT; rw [fin_canon, h]; rfl
theorem sinT_far {b : Nat} (h : fin .f32 b = true) (h2 : far (wide b) = true) : sinT (canon .f32 b) = 0 := by
  rw [canon_of_not (not_nan_of_fin h)]
  unfold sinT; rw [h, if_pos rfl, h2, if_pos rfl]
theorem sinT_near {b : Nat} (h : fin .f32 b = true) (h2 : far (wide b) = false) : sinT (canon .f32 b) = narrow (sinF (fr (wide b))) := by
  rw [canon_of_not (not_nan_of_fin h)]
  unfold sinT; rw [if_pos h, if_neg (by rw [h2]; decide)]
theorem sin_near {b : Nat} (h : fin .f32 b = true) (h2 : far (wide b) = false) : Bd .f64 52 (wide b) := near_bd (by rw [fin_wide, h]) h2

theorem far_spec {x : Nat} (h : fin .f64 x = true) :
    (FloatKind.f64.format.order x 4841369599423283200 == some .gt || FloatKind.f64.format.order x 4841369599423283200 == some .eq || (FloatKind.f64.format.order x 14064741636278059008 == some .lt || FloatKind.f64.format.order x 14064741636278059008 == some .eq)) = far x := by
  cases hd : FloatKind.f64.decode x with
  | nan s f => unfold fin at h; rw [hd] at h; cases h
  | infinity s => unfold fin at h; rw [hd] at h; cases h
  | number s m e => exact (far_parts hd).2

theorem wide_num {b : Nat} {s : Bool} {m : Nat} {e : Int} (h : FloatKind.f32.decode b = .number s m e) : ∃ t : Nat, FloatKind.f64.decode (wide b) = .number s (m * 2 ^ t) (e - t) := by
  obtain ⟨h1, h2, h3⟩ := f32_number h
  have hn : isn .f32 b = false := by unfold isn; rw [h]; rfl
  have hl : m.log2 ≤ 23 := by
    by_cases h0 : m = 0
    · rw [h0]; decide
    · have := (Nat.log2_lt h0 (k := 24)).2 (by have : (2 : Nat) ^ 24 = 16777216 := by decide
                                               omega)
      omega
  have hm : m < 2 ^ (52 + 1) := Nat.lt_of_le_of_lt h1 (by decide)
  obtain ⟨t, ht⟩ := read_exact fmt64 s (m := m) (e := e) hm (by omega) (by omega) (by decide)
  refine ⟨t, ?_⟩
  unfold wide
  rw [if_neg (by rw [hn]; decide), h]
  exact ht

end Go.Proofs.YtknabmknboffgaaGreatDoor
namespace Go.Proofs.YtknabmknboffgaaGreatDoor
open Go Go.RowKit
/-- the square root of a 32-bit number -/
def rootF (c : Nat) : Nat := narrow (fsqrt (canon .f64 (wide c)))

/-- the root of a number that float32 has is one that it has, too -/
theorem root_over (c : Nat) : over (fsqrt (canon .f64 (wide c))) = false := by
  cases hd : FloatKind.f32.decode c with
  | nan s f =>
    have hn : isn .f32 c = true := isn_iff.2 ⟨s, f, hd⟩
    have h1 : isn .f64 (canon .f64 (wide c)) = true := by rw [isn_canon, isn_wide, hn]
    unfold fsqrt
    rw [sqrt_nan h1]; decide +kernel
  | infinity s =>
    have hn : isn .f32 c = false := by unfold isn; rw [hd]; rfl
    have hw : wide c = FloatKind.f64.encode (.infinity s) := by unfold wide; rw [if_neg (by rw [hn]; decide), hd]
    rw [hw]
    cases s <;> decide +kernel
  | number s m e =>
    have hn : isn .f32 c = false := by unfold isn; rw [hd]; rfl
    obtain ⟨h1, h2, h3⟩ := f32_number hd
    have hl : Le2 m e (2 * 64) := ⟨Nat.le_trans h1 (Nat.le_trans (show 16777215 ≤ 2 ^ 24 by decide) (Nat.pow_le_pow_right (by decide) (by omega))), fun hh => by omega⟩
    have hw : wide c = FloatKind.f64.encode (.number s m e) := by unfold wide; rw [if_neg (by rw [hn]; decide), hd]
    have hb := bd_write fmt64 (s := s) hl (by decide) (by decide)
    rw [← hw] at hb
    rw [bd_canon hb]
    obtain ⟨t, n, i, hd', hl'⟩ := hb
    cases t with
    | false =>
      obtain ⟨-, hr⟩ := bdp_sqrt (j := 64) ⟨n, i, hd', hl'⟩ (by decide) (by decide)
      exact (narrow_bd (bdp_bd hr) (by decide) (by decide)).1
    | true =>
      have d1 : FloatKind.f64.format.read (wide c) = .number true n i := hd'
      by_cases h0 : n = 0
      · subst h0
        have hs : FloatKind.f64.format.sqrt (wide c) = some (FloatKind.f64.encode (.number true 0 i)) := by
          unfold Ieee.Format.sqrt; rw [d1]; rfl
        have hz : FloatKind.f64.encode (.number true 0 i) = 9223372036854775808 := by
          show FloatKind.f64.format.nearest true 0 i = _
          unfold Ieee.Format.nearest; rw [if_pos rfl]; decide +kernel
        unfold fsqrt
        rw [hs, hz]; decide +kernel
      · have hs : FloatKind.f64.format.sqrt (wide c) = none := by
          unfold Ieee.Format.sqrt
          rw [d1]
          simp only [Ieee.Datum.root, if_neg h0, if_true]
          rfl
        unfold fsqrt
        rw [hs]; decide +kernel
theorem canon_root (b : Nat) (w w' w'' : World) : canon .f32 (narrowV (fsqrtV (wideV b w) w') w'') = canon .f32 (rootF (canon .f32 b)) := by
  have e : canon .f64 (fsqrtV (wideV b w) w') = fsqrt (canon .f64 (wide (canon .f32 b))) := by
    rw [canon_fsqrtV, canon_wideV]
  rw [canon_narrowV _ _ (by rw [e]; exact root_over _), e]; rfl
end Go.Proofs.YtknabmknboffgaaGreatDoor
namespace Go.Proofs.YtknabmknboffgaaGreatDoor
open Go Go.RowKit
/-- a list of winds -/
def winV (xs : List Nat) : Bool := decide (1 ≤ xs.length ∧ xs.length ≤ 256) && amts xs xs.length
theorem winV_len {xs : List Nat} (h : winV xs = true) : 1 ≤ xs.length ∧ xs.length ≤ 256 := by
  unfold winV at h; rw [Bool.and_eq_true] at h; exact of_decide_eq_true h.1
theorem winV_no {xs : List Nat} (h : ¬ (1 ≤ xs.length ∧ xs.length ≤ 256)) : winV xs = false := by unfold winV; rw [decide_eq_false h]; rfl
theorem winV_yes {xs : List Nat} (h : 1 ≤ xs.length ∧ xs.length ≤ 256) : winV xs = amts xs xs.length := by unfold winV; rw [decide_eq_true h]; rfl
def cntN (n : Nat) : Nat := canon .f32 (floatOfInt .f32 (n : Int))
/-- the mean of winds -/
def meanV (xs : List Nat) : Nat := fop .quo .f32 (sumK xs xs.length) (cntN xs.length)
def mwO (xs : List Nat) : Bool := winV xs && fin .f32 (meanV xs)
def mwR (xs : List Nat) : Nat := if winV xs then onlyN (meanV xs) else 0
/-- the sum of squares of what numbers are more than another one -/
def sqAt (xs : List Nat) (m k : Nat) : Nat := fop .mul .f32 (fop .sub .f32 (canon .f32 (xs.getD k 0)) m) (fop .sub .f32 (canon .f32 (xs.getD k 0)) m)
def sqK (xs : List Nat) (m : Nat) : Nat → Nat
  | 0 => 0
  | k + 1 => fop .add .f32 (sqK xs m k) (sqAt xs m k)
def sprV (xs : List Nat) : Nat := canon .f32 (rootF (fop .quo .f32 (sqK xs (meanV xs) xs.length) (cntN xs.length)))
def sprO (xs : List Nat) : Bool := winV xs && fin .f32 (sprV xs)
def sprR (xs : List Nat) : Nat := if winV xs then onlyN (sprV xs) else 0
theorem sqK_not_fin (xs : List Nat) {m : Nat} (hm : fin .f32 m = false) : ∀ k, 1 ≤ k → fin .f32 (sqK xs m k) = false := by
  intro k; cases k with
  | zero => intro h; omega
  | succ k => intro _; exact addR_not_fin (mulL_not_fin (subR_not_fin hm))
theorem root_not_fin {c : Nat} (h : fin .f32 c = false) : fin .f32 (canon .f32 (rootF c)) = false := by
  rw [fin_canon]
  cases hd : FloatKind.f32.decode c with
  | nan s f =>
    have hn : isn .f32 c = true := isn_iff.2 ⟨s, f, hd⟩
    have h1 : isn .f64 (canon .f64 (wide c)) = true := by rw [isn_canon, isn_wide, hn]
    unfold rootF fsqrt
    rw [sqrt_nan h1]; decide +kernel
  | infinity s =>
    have hn : isn .f32 c = false := by unfold isn; rw [hd]; rfl
    have hw : wide c = FloatKind.f64.encode (.infinity s) := by unfold wide; rw [if_neg (by rw [hn]; decide), hd]
    unfold rootF
    rw [hw]
    cases s <;> decide +kernel
  | number s m e => unfold fin at h; rw [hd] at h; cases h
theorem sprV_mean {xs : List Nat} (h : winV xs = true) (hm : fin .f32 (meanV xs) = false) : fin .f32 (sprV xs) = false := by
  unfold sprV
  exact root_not_fin (quoL_not_fin (sqK_not_fin xs hm _ (winV_len h).1))
theorem sumK_sq {xs ys : List Nat} {m n : Nat} (h : ∀ k, k < n → canon .f32 (ys.getD k 0) = sqAt xs m k) : ∀ k, k ≤ n → sumK ys k = sqK xs m k := by
  intro k; induction k with
  | zero => intro _; rfl
  | succ k ih => intro hk; simp only [sumK, sqK, ih (by omega), h k (by omega)]
theorem onlyN_fin {x : Nat} (h : fin .f32 x = true) : onlyN x = x := by unfold onlyN; rw [h]; rfl
end Go.Proofs.YtknabmknboffgaaGreatDoor
namespace Go.Proofs.YtknabmknboffgaaGreatDoor
open Go Go.RowKit
/-- a rose in memory: its two lists -/
def Rs (w : World) (A L : Option Addr) (a l : List Nat) : Prop := Fl w A a ∧ Fl w L l
theorem Rs.below {w w' : World} {A L : Option Addr} {a l : List Nat} (h : Rs w A L a l) (hb : Below w.heap.size w w') : Rs w' A L a l := ⟨h.1.below hb, h.2.below hb⟩
theorem Rs.draws {w : World} {A L : Option Addr} {a l : List Nat} (h : Rs w A L a l) (n : Nat) : Rs (w.drewN n) A L a l := h
def FewS (a l : List Nat) : Prop := a.length + l.length ≤ 1048576
def sizedS (a l : List Nat) : Prop := 1 ≤ a.length ∧ a.length ≤ 16 ∧ l.length = a.length
instance (a l : List Nat) : Decidable (sizedS a l) := by unfold sizedS; infer_instance
/-- a valid rose -/
def rosV (a l : List Nat) : Bool := decide (sizedS a l) && (amts a a.length && amts l l.length)
theorem rosV_no {a l : List Nat} (h : ¬ sizedS a l) : rosV a l = false := by unfold rosV; rw [decide_eq_false h]; rfl
theorem rosV_yes {a l : List Nat} (h : sizedS a l) : rosV a l = (amts a a.length && amts l l.length) := by unfold rosV; rw [decide_eq_true h]; rfl
theorem rosV_sized {a l : List Nat} (h : rosV a l = true) : sizedS a l := by unfold rosV at h; rw [Bool.and_eq_true] at h; exact of_decide_eq_true h.1
theorem rosV_amts {a l : List Nat} (h : rosV a l = true) : amts a a.length = true ∧ amts l l.length = true := by unfold rosV at h; simp only [Bool.and_eq_true] at h; exact h.2
/-- both lists, one knot after another -/
def two (a l : List Nat) : Nat → Bool
  | 0 => true
  | k + 1 => two a l k && (amount (a.getD k 0) && amount (l.getD k 0))
theorem two_eq (a l : List Nat) (n : Nat) : two a l n = (amts a n && amts l n) := by
  induction n with
  | zero => rfl
  | succ n ih =>
    simp only [two, amts, ih]
    cases amts a n <;> cases amts l n <;> cases amount (a.getD n 0) <;> simp
theorem two_no {a l : List Nat} {k n : Nat} (h : two a l k = false) (hk : k ≤ n) : two a l n = false := by
  induction n with
  | zero => rw [show k = 0 by omega] at h; exact h
  | succ n ih =>
    by_cases e : k = n + 1
    · rw [← e]; exact h
    · simp only [two, ih (by omega), Bool.false_and]
theorem rosV_two {a l : List Nat} (h : sizedS a l) : rosV a l = two a l a.length := by rw [rosV_yes h, two_eq, h.2.2]
theorem amts_at {xs : List Nat} {n : Nat} (h : amts xs n = true) : ∀ j, j < n → amount (xs.getD j 0) = true := by
  induction n with
  | zero => intro j hj; omega
  | succ n ih =>
    intro j hj
    simp only [amts, Bool.and_eq_true] at h
    by_cases e : j = n
    · rw [e]; exact h.2
    · exact ih h.1 j (by omega)
theorem fin_of_amount {x : Nat} (h : amount x = true) : fin .f32 x = true := by unfold amount at h; rw [Bool.and_eq_true] at h; exact h.1
/-- two lists in new memory -/
def OwnS (w : World) (B b1 b2 : Nat) (a l : List Nat) : Prop := B ≤ b1 ∧ b1 < b2 ∧ Own w b1 a ∧ Own w b2 l
theorem OwnS.rs {w : World} {B b1 b2 : Nat} {a l : List Nat} (h : OwnS w B b1 b2 a l) : Rs w (some ⟨b1, 0, none⟩) (some ⟨b2, 0, none⟩) a l := ⟨h.2.2.1.fl, h.2.2.2.fl⟩
theorem OwnS.below {w w' : World} {B b1 b2 : Nat} {a l : List Nat} (h : OwnS w B b1 b2 a l) (hb : Below w.heap.size w w') : OwnS w' B b1 b2 a l := ⟨h.1, h.2.1, h.2.2.1.below hb, h.2.2.2.below hb⟩
theorem OwnS.draws {w : World} {B b1 b2 : Nat} {a l : List Nat} (h : OwnS w B b1 b2 a l) (n : Nat) : OwnS (w.drewN n) B b1 b2 a l := h
def secB (c : Int) : Bool := decide (1 ≤ c ∧ c ≤ 16)
end Go.Proofs.YtknabmknboffgaaGreatDoor
namespace Go.Proofs.YtknabmknboffgaaGreatDoor
open Go Go.RowKit
/-- a coordinate of a rotor -/
def nearF (x : Nat) : Bool := within x 3351465984 1203982336
def fars (xs : List Nat) : Nat → Bool
  | 0 => true
  | k + 1 => fars xs k && nearF (xs.getD k 0)
theorem fars_no {xs : List Nat} {k n : Nat} (h : fars xs k = false) (hk : k ≤ n) : fars xs n = false := by
  induction n with
  | zero => rw [show k = 0 by omega] at h; exact h
  | succ n ih =>
    by_cases e : k = n + 1
    · rw [← e]; exact h
    · simp only [fars, ih (by omega), Bool.false_and]
theorem fars_at {xs : List Nat} {n : Nat} (h : fars xs n = true) : ∀ j, j < n → nearF (xs.getD j 0) = true := by
  induction n with
  | zero => intro j hj; omega
  | succ n ih =>
    intro j hj
    simp only [fars, Bool.and_eq_true] at h
    by_cases e : j = n
    · rw [e]; exact h.2
    · exact ih h.1 j (by omega)
def twoF (x y : List Nat) : Nat → Bool
  | 0 => true
  | k + 1 => twoF x y k && (nearF (x.getD k 0) && nearF (y.getD k 0))
theorem twoF_eq (x y : List Nat) (n : Nat) : twoF x y n = (fars x n && fars y n) := by
  induction n with
  | zero => rfl
  | succ n ih =>
    simp only [twoF, fars, ih]
    cases fars x n <;> cases fars y n <;> cases nearF (x.getD n 0) <;> simp
theorem twoF_no {x y : List Nat} {k n : Nat} (h : twoF x y k = false) (hk : k ≤ n) : twoF x y n = false := by
  induction n with
  | zero => rw [show k = 0 by omega] at h; exact h
  | succ n ih =>
    by_cases e : k = n + 1
    · rw [← e]; exact h
    · simp only [twoF, ih (by omega), Bool.false_and]
def sizedF (x y : List Nat) : Prop := 1 ≤ x.length ∧ x.length ≤ 12 ∧ y.length = x.length
instance (x y : List Nat) : Decidable (sizedF x y) := by unfold sizedF; infer_instance
/-- what all rotors have in common is valid -/
def frmN (r d s : Nat) : Bool := posi r && (leq32 r 1148846080 && (posi s && within d 0 1056964608))
/-- a valid farm -/
def frmV (x y : List Nat) (r d s : Nat) : Bool := decide (sizedF x y) && (fars x x.length && (fars y y.length && frmN r d s))
theorem frmV_no {x y : List Nat} {r d s : Nat} (h : ¬ sizedF x y) : frmV x y r d s = false := by unfold frmV; rw [decide_eq_false h]; rfl
theorem frmV_yes {x y : List Nat} {r d s : Nat} (h : sizedF x y) : frmV x y r d s = (fars x x.length && (fars y y.length && frmN r d s)) := by unfold frmV; rw [decide_eq_true h]; rfl
theorem frmV_two {x y : List Nat} {r d s : Nat} (h : sizedF x y) (hn : frmN r d s = true) : frmV x y r d s = twoF x y x.length := by rw [frmV_yes h, twoF_eq, h.2.2, hn, Bool.and_true]
theorem frmV_noN {x y : List Nat} {r d s : Nat} (h : frmN r d s = false) : frmV x y r d s = false := by unfold frmV; rw [h]; simp
theorem frmV_sized {x y : List Nat} {r d s : Nat} (h : frmV x y r d s = true) : sizedF x y := by unfold frmV at h; rw [Bool.and_eq_true] at h; exact of_decide_eq_true h.1
theorem frmV_parts {x y : List Nat} {r d s : Nat} (h : frmV x y r d s = true) : fars x x.length = true ∧ fars y y.length = true ∧ frmN r d s = true := by
  unfold frmV at h; simp only [Bool.and_eq_true] at h; exact h.2
theorem BlkL.five {w : World} {B : Nat} {v0 v1 v2 v3 v4 : Value} (h : BlkL w B [v0, v1, v2, v3, v4]) : w.cell? ⟨B, 0, none⟩ = some v0 ∧ w.cell? ⟨B, 1, none⟩ = some v1 ∧ w.cell? ⟨B, 2, none⟩ = some v2 ∧ w.cell? ⟨B, 3, none⟩ = some v3 ∧ w.cell? ⟨B, 4, none⟩ = some v4 :=
  ⟨(h.2 0 _ rfl).1, (h.2 1 _ rfl).1, (h.2 2 _ rfl).1, (h.2 3 _ rfl).1, (h.2 4 _ rfl).1⟩
theorem i_isTooFar (x : Nat) (w : World) :
    Calls Tryz.prog 67 #[.float .f32 x] w fun e w' => e = .returned (.bool (!nearF x)) ∧ w' = w := by
  go_enter Tryz.func67, Tryz.ntmps67
  go_wp2_with fail
  refine (i_isWithin _ _ _ _).mono ?_
  rintro e w' ⟨rfl, rfl⟩
  go_wp2
  go_ret
  exact ⟨rfl, rfl⟩
theorem s_l06Near (x : Nat) (w : World) :
    Calls Tryz.prog 112 #[.float .f32 x] w fun e w' => e = .returned (.bool (nearF x)) ∧ w' = w := by
  cases h : geq32 x 3351465984
  all_goals
    unfold geq32 at h
    go_enter Tryz.func112, Tryz.ntmps112
    go_wp2
    go_ret
    exact ⟨by simp [nearF, within, geq32, leq32, h], rfl⟩
theorem lib_IndexFunc_isTooFar
    (A : Option Addr) (cap : Nat) (xs : List Nat) (w : World) (h : Fl w A xs) (hn : xs.length ≤ 1048576) :
    Calls Tryz.prog 97 #[.slice A xs.length cap, .func (.func 67) #[] #[]] w fun e w' => ∃ n i, e = .returned (.int .i64 i) ∧ Found (fun x => !nearF x) xs i ∧ w' = w.drewN n := by
  go_enter Tryz.func97, Tryz.ntmps97
  go_wp2
  go_loopw [8] (fun i wr => ∃ k n : Nat, k ≤ xs.length ∧ i = .int .i64 k ∧ Hid (NoneTill (fun x => !nearF x) xs k) ∧ wr = w.drewN n) (fun i _ => xs.length - (intOf i).toNat)
  case atStart => exact ⟨0, 0, Nat.zero_le _, rfl, Lib.hid (fun j hj => by omega), rfl⟩
  case round =>
    obtain ⟨k, n, hk, rfl, hr, rfl⟩ := hrel
    by_cases hlt : k < xs.length
    · obtain ⟨b, off, rfl, hb, hc⟩ := h.at_ hlt
      have HB := Lib.hid h; clear h
      obtain ⟨x, hx⟩ : ∃ x, x = xs.getD k 0 := ⟨_, rfl⟩
      rw [← hx] at hc
      have HX := Lib.hid hx; clear hx
      go_wp2_with fail
      refine (i_isTooFar _ _).mono ?_
      rintro e w' ⟨rfl, rfl⟩
      cases hp : !nearF x
      · have HS : Hid (NoneTill (fun x => !nearF x) xs (k + 1)) := Lib.hid (hr.out.step (by show (!nearF (xs.getD k 0)) = false; rw [← HX.out, hp]))
        clear hp
        go_wp2
        go_roundw
        case rel => exact ⟨k + 1, _, by omega, by go_num, HS, rfl⟩
        case measure => simp [intOf]; omega
      · have HS : Hid (Found (fun x => !nearF x) xs k) := Lib.hid (.inr ⟨k, hlt, rfl, by show (!nearF (xs.getD k 0)) = true; rw [← HX.out, hp], hr.out⟩)
        clear hp
        go_wp2
        go_ret
        exact ⟨_, _, rfl, HS.out, rfl⟩
    · have hkk : k = xs.length := by omega
      subst hkk
      have HB := Lib.hid h; clear h
      go_wp2
      go_ret
      exact ⟨_, _, rfl, .inl ⟨rfl, hr.out⟩, rfl⟩
theorem lib_ContainsFunc_isTooFar
    (A : Option Addr) (cap : Nat) (xs : List Nat) (w : World) (h : Fl w A xs) (hn : xs.length ≤ 1048576) :
    Calls Tryz.prog 66 #[.slice A xs.length cap, .func (.func 67) #[] #[]] w fun e w' => ∃ n r, e = .returned (.bool r) ∧ (∃ i, Found (fun x => !nearF x) xs i ∧ r = decide (0 ≤ i)) ∧ w' = w.drewN n := by
  have H := Lib.hid h; clear h
  go_enter Tryz.func66, Tryz.ntmps66
  go_wp2_with fail
  refine (lib_IndexFunc_isTooFar A cap xs _ H.out hn).mono ?_
  rintro e w' ⟨n, i, rfl, hi, rfl⟩
  have HI := Lib.hid hi; clear hi
  go_wp2
  go_ret
  exact ⟨_, _, rfl, ⟨i, HI.out, rfl⟩, rfl⟩
theorem found_fars {xs : List Nat} {i : Int} (h : Found (fun x => !nearF x) xs i) : (decide (0 ≤ i)) = !fars xs xs.length := by
  have hy : ∀ k, (∀ j, j < k → (!nearF (xs.getD j 0)) = false) → fars xs k = true := by
    intro k; induction k with
    | zero => intro _; rfl
    | succ k ih => intro hk; simp only [fars, ih (fun j hj => hk j (by omega)), Bool.true_and]; simpa using hk k (by omega)
  rcases h with ⟨rfl, h⟩ | ⟨k, hk, rfl, hp, -⟩
  · rw [hy _ h]; rfl
  · have : fars xs (k + 1) = false := by simp only [fars]; rw [show nearF (xs.getD k 0) = false by simpa using hp, Bool.and_false]
    rw [fars_no this (by omega)]; simp
theorem i_hasTooFar (A : Option Addr) (cap : Nat) (xs : List Nat) (w : World) (h : Fl w A xs) (hn : xs.length ≤ 1048576) :
    Calls Tryz.prog 66 #[.slice A xs.length cap, .func (.func 67) #[] #[]] w fun e w' => ∃ n, e = .returned (.bool (!fars xs xs.length)) ∧ w' = w.drewN n :=
  (lib_ContainsFunc_isTooFar A cap xs w h hn).mono fun _ _ ⟨n, _, he, ⟨_, hi, hr⟩, hw⟩ => ⟨n, by rw [he, hr, found_fars hi], hw⟩
set_option maxHeartbeats 4000000 in
theorem l_eqFarm (X Y X' Y' : Option Addr) (cx cy cx' cy' : Nat) (fx fy : List Nat) (fr fd fs fr' fd' fs' : Nat) (w : World) (h : Rs w X Y fx fy) (h' : Rs w X' Y' fx fy) (hn : FewS fx fy) (hr : canon .f32 fr = canon .f32 fr') (hd : canon .f32 fd = canon .f32 fd') (hs : canon .f32 fs = canon .f32 fs') :
    Calls Tryz.prog 12 #[.agg #[.slice X fx.length cx, .slice Y fy.length cy, .float .f32 fr, .float .f32 fd, .float .f32 fs], .agg #[.slice X' fx.length cx', .slice Y' fy.length cy', .float .f32 fr', .float .f32 fd', .float .f32 fs']] w fun e w' => e = .returned (.bool true) ∧ Below w.heap.size w w' := by
  unfold FewS at hn
  have HP := Lib.hid h; clear h
  have HP' := Lib.hid h'; clear h'
  have R := Lib.hid hr; have D := Lib.hid hd; have S := Lib.hid hs
  clear hr hd hs
  obtain ⟨w0, hw0⟩ : ∃ x, x = (w.alloc (.cells #[.slice X fx.length cx, .slice Y fy.length cy, .float .f32 fr, .float .f32 fd, .float .f32 fs] 33)).alloc (.cells #[.slice X' fx.length cx', .slice Y' fy.length cy', .float .f32 fr', .float .f32 fd', .float .f32 fs'] 33) := ⟨_, rfl⟩
  have B0 : Hid (Below w.heap.size w w0) := Lib.hid (by rw [hw0]; exact ((Below.refl _ _).alloc (Nat.le_refl _) _).alloc (by simp) _)
  have K0 : Hid (BlkL w0 w.heap.size [.slice X fx.length cx, .slice Y fy.length cy, .float .f32 fr, .float .f32 fd, .float .f32 fs]) := Lib.hid (by rw [hw0]; exact (blkL_at w #[.slice X fx.length cx, .slice Y fy.length cy, .float .f32 fr, .float .f32 fd, .float .f32 fs] _ rfl).alloc _)
  have K1 : Hid (BlkL w0 (w.heap.size + 1) [.slice X' fx.length cx', .slice Y' fy.length cy', .float .f32 fr', .float .f32 fd', .float .f32 fs']) := Lib.hid (by rw [hw0]; exact blkL_at (w.alloc _) #[.slice X' fx.length cx', .slice Y' fy.length cy', .float .f32 fr', .float .f32 fd', .float .f32 fs'] _ (by simp))
  go_enter Tryz.func12, Tryz.ntmps12
  go_wp2_with fail
  rw [← hw0]
  clear hw0
  obtain ⟨k0, k1, k2, k3, k4⟩ := K0.out.five
  obtain ⟨l0, l1, l2, l3, l4⟩ := K1.out.five
  go_wp2_with fail
  refine (l_eqF32 X X' cx cx' fx _ (HP.out.1.below B0.out) (HP'.out.1.below B0.out) (by omega)).mono ?_
  rintro e w' ⟨n1, rfl, rfl⟩
  go_wp2_with fail
  refine (l_eqF32 Y Y' cy cy' fy _ (HP.out.2.below (below_draws B0.out _)) (HP'.out.2.below (below_draws B0.out _)) (by omega)).mono ?_
  rintro e w' ⟨n2, rfl, rfl⟩
  go_wp2_with fail
  refine (sameFloat_yes _ _ _ (by rw [canon_wideV, canon_wideV, R.out])).mono ?_
  rintro e w' ⟨n3, rfl, rfl⟩
  go_wp2_with fail
  refine (sameFloat_yes _ _ _ (by rw [canon_wideV, canon_wideV, D.out])).mono ?_
  rintro e w' ⟨n4, rfl, rfl⟩
  go_wp2_with fail
  refine (sameFloat_yes _ _ _ (by rw [canon_wideV, canon_wideV, S.out])).mono ?_
  rintro e w' ⟨n5, rfl, rfl⟩
  go_wp2
  go_ret
  exact ⟨rfl, by repeat (first | exact B0.out | refine below_draws ?_ _)⟩
end Go.Proofs.YtknabmknboffgaaGreatDoor
namespace Go.Proofs.YtknabmknboffgaaGreatDoor
open Go Go.RowKit
theorem gtr_not_leq {a b : Nat} (ha : isn .f32 a = false) (hb : isn .f32 b = false) : gtr32 a b = !leq32 a b := by
  have h := order_some ha hb
  unfold gtr32 leq32
  cases ho : FloatKind.f32.format.order a b with
  | none => rw [ho] at h; cases h
  | some o => cases o <;> rfl
theorem posi_fin {x : Nat} (h : posi x = true) : fin .f32 x = true := by unfold posi at h; rw [Bool.and_eq_true] at h; exact h.1
theorem k1000 : isn .f32 1148846080 = false := by decide +kernel
set_option maxHeartbeats 8000000 in
theorem i_ValidFarm (X Y : Option Addr) (cx cy : Nat) (fx fy : List Nat) (fr fd fs : Nat) (w : World) (h : Rs w X Y fx fy) (hn : FewS fx fy) :
    Calls Tryz.prog 33 #[.agg #[.slice X fx.length cx, .slice Y fy.length cy, .float .f32 fr, .float .f32 fd, .float .f32 fs]] w fun e w' => e = .returned (.bool (frmV fx fy fr fd fs)) ∧ Below w.heap.size w w' := by
  unfold FewS at hn
  have HP := Lib.hid h; clear h
  have HB : ∀ o1, Hid (Below w.heap.size w (w.alloc o1)) := fun _ => Lib.hid ((Below.refl _ _).alloc (Nat.le_refl _) _)
  by_cases h1 : 1 ≤ fx.length
  · by_cases h2 : fx.length ≤ 12
    · by_cases h3 : fy.length = fx.length
      · have e1 : ((fy.length : Int) == (fx.length : Int)) = true := by simp; omega
        have HY : Hid (frmV fx fy fr fd fs = (fars fx fx.length && (fars fy fy.length && frmN fr fd fs))) := Lib.hid (frmV_yes ⟨h1, h2, h3⟩)
        clear h3
        go_enter Tryz.func33, Tryz.ntmps33
        go_wp2_with fail
        refine (i_hasTooFar X cx fx _ (HP.out.1.below (HB _).out) (by omega)).mono ?_
        rintro e w' ⟨n1, rfl, rfl⟩
        cases p1 : fars fx fx.length
        · go_wp2
          go_ret
          exact ⟨by simp [HY.out, frmN, p1], by repeat (first | exact (HB _).out | refine below_draws ?_ _)⟩
        · skip
          go_wp2_with fail
          refine (i_hasTooFar Y cy fy _ (HP.out.2.below (below_draws (HB _).out _)) (by omega)).mono ?_
          rintro e w' ⟨n2, rfl, rfl⟩
          cases p2 : fars fy fy.length
          · go_wp2
            go_ret
            exact ⟨by simp [HY.out, frmN, p1, p2], by repeat (first | exact (HB _).out | refine below_draws ?_ _)⟩
          · skip
            go_wp2_with fail
            refine (i_isPositive _ _).mono ?_
            rintro e w' ⟨n3, rfl, rfl⟩
            cases p3 : posi fr
            · go_wp2
              go_ret
              exact ⟨by simp [HY.out, frmN, p1, p2, p3], by repeat (first | exact (HB _).out | refine below_draws ?_ _)⟩
            · skip
              cases p4 : leq32 fr 1148846080
              · have P4 := Lib.hid p4
                unfold leq32 at p4
                go_wp2
                go_ret
                exact ⟨by simp [HY.out, frmN, p1, p2, p3, P4.out], by repeat (first | exact (HB _).out | refine below_draws ?_ _)⟩
              · have P4 := Lib.hid p4
                unfold leq32 at p4
                go_wp2_with fail
                refine (i_isPositive _ _).mono ?_
                rintro e w' ⟨n4, rfl, rfl⟩
                clear p4
                cases p5 : posi fs
                · go_wp2
                  go_ret
                  exact ⟨by simp [HY.out, frmN, p1, p2, p3, P4.out, p5], by repeat (first | exact (HB _).out | refine below_draws ?_ _)⟩
                · skip
                  go_wp2_with fail
                  refine (i_isWithin _ _ _ _).mono ?_
                  rintro e w' ⟨rfl, rfl⟩
                  go_wp2
                  go_ret
                  exact ⟨by simp [HY.out, frmN, p1, p2, p3, P4.out, p5], by repeat (first | exact (HB _).out | refine below_draws ?_ _)⟩
      · have e1 : ((fy.length : Int) == (fx.length : Int)) = false := by rw [beq_eq_false_iff_ne]; omega
        have HY : Hid (frmV fx fy fr fd fs = false) := Lib.hid (frmV_no (fun hh => h3 hh.2.2))
        clear h3
        go_enter Tryz.func33, Tryz.ntmps33
        go_wp2
        go_ret
        exact ⟨by rw [HY.out]; rfl, (HB _).out⟩
    · have HY : Hid (frmV fx fy fr fd fs = false) := Lib.hid (frmV_no (fun hh => h2 hh.2.1))
      go_enter Tryz.func33, Tryz.ntmps33
      go_wp2
      go_ret
      exact ⟨by rw [HY.out]; rfl, (HB _).out⟩
  · have HY : Hid (frmV fx fy fr fd fs = false) := Lib.hid (frmV_no (fun hh => h1 hh.1))
    go_enter Tryz.func33, Tryz.ntmps33
    go_wp2
    go_ret
    exact ⟨by rw [HY.out]; rfl, (HB _).out⟩
set_option maxHeartbeats 16000000 in
set_option maxRecDepth 100000 in
theorem s_l06Is (X Y : Option Addr) (cx cy : Nat) (fx fy : List Nat) (fr fd fs : Nat) (B : Nat) (w : World) (h : Rs w X Y fx fy) (hn : FewS fx fy) (hk : BlkL w B [.slice X fx.length cx, .slice Y fy.length cy, .float .f32 fr, .float .f32 fd, .float .f32 fs]) :
    Calls Tryz.prog 96 #[.pointer (some ⟨B, 0, none⟩)] w fun e w' => e = .returned (.bool (frmV fx fy fr fd fs)) ∧ ∃ n, w' = w.drewN n := by
  unfold FewS at hn
  have HP := Lib.hid h; clear h
  obtain ⟨k0, k1, k2, k3, k4⟩ := hk.five
  clear hk
  by_cases h1 : fx.length < 1
  · have HY : Hid (frmV fx fy fr fd fs = false) := Lib.hid (frmV_no (fun hh => by have := hh.1; omega))
    go_enter Tryz.func96, Tryz.ntmps96
    go_wp2
    go_ret
    exact ⟨by rw [HY.out]; rfl, 0, rfl⟩
  · by_cases h2 : 12 < fx.length
    · have HY : Hid (frmV fx fy fr fd fs = false) := Lib.hid (frmV_no (fun hh => by have := hh.2.1; omega))
      go_enter Tryz.func96, Tryz.ntmps96
      go_wp2
      go_ret
      exact ⟨by rw [HY.out]; rfl, 0, rfl⟩
    · by_cases h3 : fy.length = fx.length
      · have e1 : ((fy.length : Int) != (fx.length : Int)) = false := by simp; omega
        have HS : Hid (sizedF fx fy) := Lib.hid ⟨by omega, by omega, h3⟩
        have h3' : fx.length ≤ fy.length := by omega
        clear h3
        go_enter Tryz.func96, Tryz.ntmps96
        go_wp2_with fail
        refine (s_l02Above _ _).mono ?_
        rintro e w' ⟨m1, rfl, rfl⟩
        cases p1 : posi fr
        · skip
          have HN : Hid (frmV fx fy fr fd fs = false) := Lib.hid (frmV_noN (by simp [frmN, within, p1]))
          go_wp2
          go_ret
          exact ⟨by rw [HN.out]; rfl, _, by first | rfl | (simp only [World.drewN_drewN]; rfl)⟩
        · skip
          have PF := posi_fin p1
          have PG := gtr_not_leq (isn_of_fin PF) k1000
          clear PF
          cases p2 : leq32 fr 1148846080
          · rw [p2] at PG
            unfold gtr32 at PG
            have HN : Hid (frmV fx fy fr fd fs = false) := Lib.hid (frmV_noN (by simp [frmN, within, p1, p2]))
            go_wp2
            go_ret
            exact ⟨by rw [HN.out]; rfl, _, by first | rfl | (simp only [World.drewN_drewN]; rfl)⟩
          · rw [p2] at PG
            unfold gtr32 at PG
            go_wp2_with fail
            refine (s_l02Above _ _).mono ?_
            rintro e w' ⟨m2, rfl, rfl⟩
            clear PG
            cases p3 : posi fs
            · skip
              have HN : Hid (frmV fx fy fr fd fs = false) := Lib.hid (frmV_noN (by simp [frmN, within, p1, p2, p3]))
              go_wp2
              go_ret
              exact ⟨by rw [HN.out]; rfl, _, by first | rfl | (simp only [World.drewN_drewN]; rfl)⟩
            · skip
              cases p4 : geq32 fd 0
              · have q4 := p4
                unfold geq32 at q4
                have HN : Hid (frmV fx fy fr fd fs = false) := Lib.hid (frmV_noN (by simp [frmN, within, p1, p2, p3, p4]))
                go_wp2
                go_ret
                exact ⟨by rw [HN.out]; rfl, _, by first | rfl | (simp only [World.drewN_drewN]; rfl)⟩
              · have q4 := p4
                unfold geq32 at q4
                cases p5 : leq32 fd 1056964608
                · have q5 := p5
                  unfold leq32 at q5
                  have HN : Hid (frmV fx fy fr fd fs = false) := Lib.hid (frmV_noN (by simp [frmN, within, p1, p2, p3, p4, p5]))
                  go_wp2
                  go_ret
                  exact ⟨by rw [HN.out]; rfl, _, by first | rfl | (simp only [World.drewN_drewN]; rfl)⟩
                · have q5 := p5
                  unfold leq32 at q5
                  have HY : Hid (frmV fx fy fr fd fs = twoF fx fy fx.length) := Lib.hid (frmV_two HS.out (by simp [frmN, within, p1, p2, p3, p4, p5]))
                  clear p1 p2 p3 p4 p5
                  go_wp2
                  clear q4 q5 e1
                  go_loopw [4] (fun i wr => ∃ k n : Nat, k ≤ fx.length ∧ i = .int .i64 k ∧ Hid (twoF fx fy k = true) ∧ wr = w.drewN n) (fun i _ => fx.length - (intOf i).toNat)
                  case atStart => exact ⟨0, _, Nat.zero_le _, rfl, rfl, by first | rfl | (simp only [World.drewN_drewN]; rfl)⟩
                  case round =>
                    obtain ⟨k, n, hk, rfl, hr, rfl⟩ := hrel
                    by_cases hlt : k < fx.length
                    · obtain ⟨b, off, rfl, hb, hc⟩ := HP.out.1.at_ hlt
                      obtain ⟨bl, ol, rfl, hbl, hcl⟩ := HP.out.2.at_ (show k < fy.length by omega)
                      have hltl : k < fy.length := by omega
                      have HNo : Hid (twoF fx fy (k + 1) = false → frmV fx fy fr fd fs = false) := Lib.hid (fun h => by rw [HY.out]; exact twoF_no h (by omega))
                      have HA : Hid (twoF fx fy (k + 1) = (nearF (fx.getD k 0) && nearF (fy.getD k 0))) := Lib.hid (by show (twoF fx fy k && _) = _; rw [hr.out]; rfl)
                      obtain ⟨x, hx⟩ : ∃ x, x = fx.getD k 0 := ⟨_, rfl⟩
                      obtain ⟨y, hy⟩ : ∃ x, x = fy.getD k 0 := ⟨_, rfl⟩
                      rw [← hx] at hc
                      rw [← hy] at hcl
                      have HX := Lib.hid hx; clear hx hb
                      have HYY := Lib.hid hy; clear hy hbl
                      go_wp2_with fail
                      refine (s_l06Near _ _).mono ?_
                      rintro e w' ⟨rfl, rfl⟩
                      cases p1 : nearF x
                      · have HN : Hid (frmV fx fy fr fd fs = false) := Lib.hid (HNo.out (by rw [HA.out, ← HX.out, p1]; rfl))
                        go_wp2
                        go_ret
                        exact ⟨by rw [HN.out]; rfl, _, by first | rfl | (simp only [World.drewN_drewN]; rfl)⟩
                      · go_wp2_with fail
                        refine (s_l06Near _ _).mono ?_
                        rintro e w' ⟨rfl, rfl⟩
                        cases p2 : nearF y
                        · have HN : Hid (frmV fx fy fr fd fs = false) := Lib.hid (HNo.out (by rw [HA.out, ← HYY.out, p2]; simp))
                          go_wp2
                          go_ret
                          exact ⟨by rw [HN.out]; rfl, _, by first | rfl | (simp only [World.drewN_drewN]; rfl)⟩
                        · have HG : Hid (twoF fx fy (k + 1) = true) := Lib.hid (by rw [HA.out, ← HX.out, ← HYY.out, p1, p2]; rfl)
                          go_wp2
                          go_roundw
                          case rel => exact ⟨k + 1, _, by omega, by go_num, HG, by first | rfl | (simp only [World.drewN_drewN]; rfl)⟩
                          case measure => simp [intOf]; omega
                    · have hkk : k = fx.length := by omega
                      subst hkk
                      have HN : Hid (frmV fx fy fr fd fs = true) := Lib.hid (by rw [HY.out, hr.out])
                      go_wp2
                      go_ret
                      exact ⟨by rw [HN.out]; rfl, n, rfl⟩
      · have e1 : ((fy.length : Int) != (fx.length : Int)) = true := by rw [bne_iff_ne]; omega
        have HY : Hid (frmV fx fy fr fd fs = false) := Lib.hid (frmV_no (fun hh => h3 hh.2.2))
        clear h3
        go_enter Tryz.func96, Tryz.ntmps96
        go_wp2
        go_ret
        exact ⟨by rw [HY.out]; rfl, 0, rfl⟩
end Go.Proofs.YtknabmknboffgaaGreatDoor
namespace Go.Proofs.YtknabmknboffgaaGreatDoor
open Go Go.RowKit
theorem Fl.news {w : World} {b off : Nat} {xs : List Nat} (h : Fl w (some ⟨b, off, none⟩) xs) : ∀ j u, (xs.map (Value.float .f32))[j]? = some u → w.cell? ((⟨b, off, none⟩ : Addr).add j) = some u := by
  intro j u hj
  simp only [List.getElem?_map, Option.map_eq_some_iff] at hj
  obtain ⟨x, hx, rfl⟩ := hj
  have hlt : j < xs.length := (List.getElem?_eq_some_iff.1 hx).1
  have hc := h.same rfl hlt
  have e : xs.getD j 0 = x := by rw [List.getD_eq_getElem?_getD, hx]; rfl
  rw [e] at hc
  unfold Addr.add
  split
  · rename_i h0; subst h0; exact hc
  · exact hc
theorem oneF (xs : List Nat) : ∀ u ∈ xs.map (Value.float .f32), u.oneCell' = true := by
  intro u hu
  simp only [List.mem_map] at hu
  obtain ⟨x, -, rfl⟩ := hu
  rfl
/-- a list that grew by another one -/
theorem Gr.more {w0 wr w1 : World} {B0 m : Nat} {v v' : Value} {xs ys : List Nat} (h : Gr wr B0 v xs) (hb : Below w0.heap.size w0 wr) (hB : w0.heap.size ≤ B0) (hm : m = ys.length)
    (ho : w1.ownsRow B0 22 1 v' (xs.length + m) (xs.map (Value.float .f32) ++ ys.map (Value.float .f32))) (hg : wr.grownBy w1 v.ownBlock) : Gr w1 B0 v' (xs ++ ys) ∧ Below w0.heap.size w0 w1 := by
  subst hm
  refine ⟨by unfold Gr; simpa using ho, ?_⟩
  have hlt := World.ownsRow.lt h
  exact hb.grown hg hb.size (fun k hk => by have := (hlt k hk).1; omega)
end Go.Proofs.YtknabmknboffgaaGreatDoor
namespace Go.Proofs.YtknabmknboffgaaGreatDoor
open Go Go.RowKit
theorem conv_toI (x : Nat) (w : World) (h : Bd .f64 62 x) : (convert 56 2 (.float .f64 x)).run Tryz.prog w = .ok (.int .i64 (toI x)) w :=
  run_convert_float_int w _ _ .f64 .i64 x _ (by kernel_rfl) (by kernel_rfl) (toI_val h)
@[go_sem] theorem conv_ofI (n : Int) (w : World) : (convert 2 56 (.int .i64 n)).run Tryz.prog w = .ok (.float .f64 (floatOfInt .f64 n)) w :=
  run_convert_int_float w _ _ .i64 .f64 n (by kernel_rfl) (by kernel_rfl)
end Go.Proofs.YtknabmknboffgaaGreatDoor
namespace Go.Proofs.YtknabmknboffgaaGreatDoor
open Go Go.RowKit
/-- the sines of a turn -/
def cosT (t : Nat) : Nat := canon .f32 (sinT (fop .add .f32 (canon .f32 t) (canon .f32 1048576000)))
def sinC (t : Nat) : Nat := canon .f32 (sinT (canon .f32 t))
end Go.Proofs.YtknabmknboffgaaGreatDoor
namespace Go.Proofs.YtknabmknboffgaaGreatDoor
open Go Go.RowKit
def gL (o : Bool) (xs : List Nat) : List Nat := if o then xs else []
def gF (o : Bool) (x : Nat) : Nat := if o then x else 0
theorem gLf_few (o : Bool) {xs ys : List Nat} (h : FewS xs ys) : FewS (gL o xs) (gL o ys) := by cases o <;> simp [gL, FewS] at * <;> exact h
set_option maxHeartbeats 8000000 in
theorem s_l06Give_yes (X Y : Option Addr) (cx cy : Nat) (fx fy : List Nat) (fr fd fs : Nat) (w : World) (h : Rs w X Y fx fy) (hn : FewS fx fy) (hv : frmV fx fy fr fd fs = true) :
    Calls Tryz.prog 64 #[.agg #[.slice X fx.length cx, .slice Y fy.length cy, .float .f32 fr, .float .f32 fd, .float .f32 fs]] w fun e w' => e = .returned (.tuple #[.agg #[.slice X fx.length cx, .slice Y fy.length cy, .float .f32 fr, .float .f32 fd, .float .f32 fs], .bool true]) ∧ Below w.heap.size w w' := by
  have HP := Lib.hid h; clear h
  have HV := Lib.hid hv; clear hv
  have HB : ∀ o1 o2, Hid (Below w.heap.size w ((w.alloc o1).alloc o2)) := fun _ _ => Lib.hid (((Below.refl _ _).alloc (Nat.le_refl _) _).alloc (by simp) _)
  have K0 : ∀ t o, Hid (BlkL ((w.alloc (.cells #[.slice X fx.length cx, .slice Y fy.length cy, .float .f32 fr, .float .f32 fd, .float .f32 fs] t)).alloc o) w.heap.size [.slice X fx.length cx, .slice Y fy.length cy, .float .f32 fr, .float .f32 fd, .float .f32 fs]) := fun t o => Lib.hid ((blkL_at w #[.slice X fx.length cx, .slice Y fy.length cy, .float .f32 fr, .float .f32 fd, .float .f32 fs] t rfl).alloc o)
  have K1 : ∀ t o, Hid (BlkL ((w.alloc o).alloc (.cells #[.slice none 0 0, .slice none 0 0, .float .f32 0, .float .f32 0, .float .f32 0] t)) (w.heap.size + 1) [.slice none 0 0, .slice none 0 0, .float .f32 0, .float .f32 0, .float .f32 0]) := fun t o => Lib.hid (blkL_at (w.alloc o) #[.slice none 0 0, .slice none 0 0, .float .f32 0, .float .f32 0, .float .f32 0] t (by simp))
  go_enter Tryz.func64, Tryz.ntmps64
  go_wp2_with fail
  refine (s_l06Is X Y cx cy fx fy fr fd fs _ _ (HP.out.below (HB _ _).out) hn (K0 _ _).out).mono ?_
  rintro e w1 ⟨rfl, n1, hw⟩
  have b1 : Below ((w.alloc (.cells #[.slice X fx.length cx, .slice Y fy.length cy, .float .f32 fr, .float .f32 fd, .float .f32 fs] 33)).alloc (.cells #[.slice none 0 0, .slice none 0 0, .float .f32 0, .float .f32 0, .float .f32 0] 33)).heap.size ((w.alloc (.cells #[.slice X fx.length cx, .slice Y fy.length cy, .float .f32 fr, .float .f32 fd, .float .f32 fs] 33)).alloc (.cells #[.slice none 0 0, .slice none 0 0, .float .f32 0, .float .f32 0, .float .f32 0] 33)) w1 := by rw [hw]; exact below_draws (Below.refl _ _) _
  clear hw
  have L0 : Hid (BlkL w1 w.heap.size [.slice X fx.length cx, .slice Y fy.length cy, .float .f32 fr, .float .f32 fd, .float .f32 fs]) := Lib.hid ((K0 _ _).out.below b1)
  have L1 : Hid (BlkL w1 (w.heap.size + 1) [.slice none 0 0, .slice none 0 0, .float .f32 0, .float .f32 0, .float .f32 0]) := Lib.hid ((K1 _ _).out.below b1)
  have B1 : Hid (Below w.heap.size w w1) := Lib.hid (below_of (HB _ _).out (HB _ _).out.size b1)
  clear b1 K0 K1 HB
  rw [HV.out]
  obtain ⟨k0, k1, k2, k3, k4⟩ := L0.out.five
  have p0 := (L1.out.2 0 _ rfl).1
  have q0 := (L1.out.2 0 _ rfl).2
  have p1 := (L1.out.2 1 _ rfl).1
  have q1 := (L1.out.2 1 _ rfl).2
  have p2 := (L1.out.2 2 _ rfl).1
  have q2 := (L1.out.2 2 _ rfl).2
  have p3 := (L1.out.2 3 _ rfl).1
  have q3 := (L1.out.2 3 _ rfl).2
  have p4 := (L1.out.2 4 _ rfl).1
  have q4 := (L1.out.2 4 _ rfl).2
  go_wp2
  refine bodyPost_ret (v := .tuple #[.agg #[.slice X fx.length cx, .slice Y fy.length cy, .float .f32 fr, .float .f32 fd, .float .f32 fs], .bool true]) ?_ rfl ⟨rfl, ?_⟩
  · simp [results, Tryz.results64, go_sem, p0, p1, p2, p3, p4]
  · exact (((((B1.out).setCell (p := ⟨w.heap.size + 1, 0, none⟩) (by show w.heap.size ≤ w.heap.size + 1; omega) _).setCell (p := ⟨w.heap.size + 1, 1, none⟩) (by show w.heap.size ≤ w.heap.size + 1; omega) _).setCell (p := ⟨w.heap.size + 1, 2, none⟩) (by show w.heap.size ≤ w.heap.size + 1; omega) _).setCell (p := ⟨w.heap.size + 1, 3, none⟩) (by show w.heap.size ≤ w.heap.size + 1; omega) _).setCell (p := ⟨w.heap.size + 1, 4, none⟩) (by show w.heap.size ≤ w.heap.size + 1; omega) _
set_option maxHeartbeats 8000000 in
theorem s_l06Give_no (X Y : Option Addr) (cx cy : Nat) (fx fy : List Nat) (fr fd fs : Nat) (w : World) (h : Rs w X Y fx fy) (hn : FewS fx fy) (hv : frmV fx fy fr fd fs = false) :
    Calls Tryz.prog 64 #[.agg #[.slice X fx.length cx, .slice Y fy.length cy, .float .f32 fr, .float .f32 fd, .float .f32 fs]] w fun e w' => e = .returned (.tuple #[.agg #[.slice none 0 0, .slice none 0 0, .float .f32 0, .float .f32 0, .float .f32 0], .bool false]) ∧ Below w.heap.size w w' := by
  have HP := Lib.hid h; clear h
  have HV := Lib.hid hv; clear hv
  have HB : ∀ o1 o2, Hid (Below w.heap.size w ((w.alloc o1).alloc o2)) := fun _ _ => Lib.hid (((Below.refl _ _).alloc (Nat.le_refl _) _).alloc (by simp) _)
  have K0 : ∀ t o, Hid (BlkL ((w.alloc (.cells #[.slice X fx.length cx, .slice Y fy.length cy, .float .f32 fr, .float .f32 fd, .float .f32 fs] t)).alloc o) w.heap.size [.slice X fx.length cx, .slice Y fy.length cy, .float .f32 fr, .float .f32 fd, .float .f32 fs]) := fun t o => Lib.hid ((blkL_at w #[.slice X fx.length cx, .slice Y fy.length cy, .float .f32 fr, .float .f32 fd, .float .f32 fs] t rfl).alloc o)
  have K1 : ∀ t o, Hid (BlkL ((w.alloc o).alloc (.cells #[.slice none 0 0, .slice none 0 0, .float .f32 0, .float .f32 0, .float .f32 0] t)) (w.heap.size + 1) [.slice none 0 0, .slice none 0 0, .float .f32 0, .float .f32 0, .float .f32 0]) := fun t o => Lib.hid (blkL_at (w.alloc o) #[.slice none 0 0, .slice none 0 0, .float .f32 0, .float .f32 0, .float .f32 0] t (by simp))
  go_enter Tryz.func64, Tryz.ntmps64
  go_wp2_with fail
  refine (s_l06Is X Y cx cy fx fy fr fd fs _ _ (HP.out.below (HB _ _).out) hn (K0 _ _).out).mono ?_
  rintro e w1 ⟨rfl, n1, hw⟩
  have b1 : Below ((w.alloc (.cells #[.slice X fx.length cx, .slice Y fy.length cy, .float .f32 fr, .float .f32 fd, .float .f32 fs] 33)).alloc (.cells #[.slice none 0 0, .slice none 0 0, .float .f32 0, .float .f32 0, .float .f32 0] 33)).heap.size ((w.alloc (.cells #[.slice X fx.length cx, .slice Y fy.length cy, .float .f32 fr, .float .f32 fd, .float .f32 fs] 33)).alloc (.cells #[.slice none 0 0, .slice none 0 0, .float .f32 0, .float .f32 0, .float .f32 0] 33)) w1 := by rw [hw]; exact below_draws (Below.refl _ _) _
  clear hw
  have L0 : Hid (BlkL w1 w.heap.size [.slice X fx.length cx, .slice Y fy.length cy, .float .f32 fr, .float .f32 fd, .float .f32 fs]) := Lib.hid ((K0 _ _).out.below b1)
  have L1 : Hid (BlkL w1 (w.heap.size + 1) [.slice none 0 0, .slice none 0 0, .float .f32 0, .float .f32 0, .float .f32 0]) := Lib.hid ((K1 _ _).out.below b1)
  have B1 : Hid (Below w.heap.size w w1) := Lib.hid (below_of (HB _ _).out (HB _ _).out.size b1)
  clear b1 K0 K1 HB
  rw [HV.out]
  obtain ⟨k0, k1, k2, k3, k4⟩ := L0.out.five
  have p0 := (L1.out.2 0 _ rfl).1
  have q0 := (L1.out.2 0 _ rfl).2
  have p1 := (L1.out.2 1 _ rfl).1
  have q1 := (L1.out.2 1 _ rfl).2
  have p2 := (L1.out.2 2 _ rfl).1
  have q2 := (L1.out.2 2 _ rfl).2
  have p3 := (L1.out.2 3 _ rfl).1
  have q3 := (L1.out.2 3 _ rfl).2
  have p4 := (L1.out.2 4 _ rfl).1
  have q4 := (L1.out.2 4 _ rfl).2
  go_wp2
  refine bodyPost_ret (v := .tuple #[.agg #[.slice none 0 0, .slice none 0 0, .float .f32 0, .float .f32 0, .float .f32 0], .bool false]) ?_ rfl ⟨rfl, ?_⟩
  · simp [results, Tryz.results64, go_sem, p0, p1, p2, p3, p4]
  · exact (((((B1.out).setCell (p := ⟨w.heap.size + 1, 0, none⟩) (by show w.heap.size ≤ w.heap.size + 1; omega) _).setCell (p := ⟨w.heap.size + 1, 1, none⟩) (by show w.heap.size ≤ w.heap.size + 1; omega) _).setCell (p := ⟨w.heap.size + 1, 2, none⟩) (by show w.heap.size ≤ w.heap.size + 1; omega) _).setCell (p := ⟨w.heap.size + 1, 3, none⟩) (by show w.heap.size ≤ w.heap.size + 1; omega) _).setCell (p := ⟨w.heap.size + 1, 4, none⟩) (by show w.heap.size ≤ w.heap.size + 1; omega) _
end Go.Proofs.YtknabmknboffgaaGreatDoor
namespace Go.Proofs.YtknabmknboffgaaGreatDoor
open Go Go.RowKit
set_option maxHeartbeats 4000000 in
theorem l_markFarm (A L : Option Addr) (b1 b2 B0 ca cl k0 : Nat) (a l : List Nat) (r d s : Nat) (w : World) (h : OwnR2 w B0 A L b1 b2 a l) (hn : a.length + l.length ≤ 1048576) (hk0 : k0 ≤ 1048577) (K : Int) (hK : K = (k0 : Int)) :
    Calls Tryz.prog 13 #[.agg #[.slice A a.length ca, .slice L l.length cl, .float .f32 r, .float .f32 d, .float .f32 s], .int .i64 K] w fun e w' => e = .returned (.int .i64 ((k0 : Int) + (a.length : Int) + (l.length : Int))) ∧
      OwnR2 w' B0 A L b1 b2 (marks k0 a.length) (marks (k0 + a.length) l.length) ∧ Turn w w' (SR a l b1 b2) := by
  obtain ⟨h1, h2, n12⟩ := h
  have HB : ∀ o1, Hid (Below w.heap.size w (w.alloc o1)) := fun _ => Lib.hid ((Below.refl _ _).alloc (Nat.le_refl _) _)
  have H1 := Lib.hid h1
  have H2 := Lib.hid h2
  clear h1 h2
  subst hK
  go_enter Tryz.func13, Tryz.ntmps13
  go_wp2_with fail
  refine (l_markF32 A b1 ca k0 a _ (H1.out.below (HB _).out).a (by omega) (by omega) _ rfl).mono ?_
  rintro e w1 ⟨rfl, m1, t1⟩
  have K0 := blkL_at w #[.slice A a.length ca, .slice L l.length cl, .float .f32 r, .float .f32 d, .float .f32 s] 33 rfl
  have K1 : Hid (BlkL w1 w.heap.size [_, _, _, _, _]) := Lib.hid (BlkL.turnS K0 t1 (H1.out.notS (Nat.le_refl _)))
  have T1 : Hid (Turn w w1 (SR a l b1 b2)) := Lib.hid ((Turn.of_below (HB _).out _).trans (t1.mono (fun b hb => .inl hb)))
  have O2 : Hid (OwnO w1 B0 L b2 l) := Lib.hid ((H2.out.below (HB _).out).turn t1 (SB.ne (Ne.symm n12)))
  have O1 : Hid (OwnO w1 B0 A b1 (marks k0 a.length)) := Lib.hid (H1.out.mk' (marks_length _ _) m1)
  clear t1 m1 K0
  obtain ⟨k0', k1, -, -, -⟩ := K1.out.five
  go_wp2_with fail
  refine (l_markF32 L b2 cl (k0 + a.length) l _ O2.out.a (by omega) (by omega) _ (by omega)).mono ?_
  rintro e w2 ⟨rfl, m2, t2⟩
  have T2 : Hid (Turn w w2 (SR a l b1 b2)) := Lib.hid (T1.out.trans (t2.mono (fun b hb => .inr hb)))
  have P1 : Hid (OwnO w2 B0 A b1 (marks k0 a.length)) := Lib.hid (O1.out.turn t2 (SB.ne n12))
  have P2 : Hid (OwnO w2 B0 L b2 (marks (k0 + a.length) l.length)) := Lib.hid (O2.out.mk' (marks_length _ _) m2)
  clear t2 m2 k0' k1
  go_wp2
  go_ret
  exact ⟨rfl, ⟨P1.out, P2.out, n12⟩, T2.out⟩
set_option maxHeartbeats 4000000 in
theorem l_heldFarm (A L : Option Addr) (b1 b2 B0 ca cl k0 na nl r d s : Nat) (w : World) (h : OwnR2 w B0 A L b1 b2 (marks k0 na) (marks (k0 + na) nl)) (hn : na + nl ≤ 1048576) (hk0 : k0 ≤ 1048577) (K : Int) (hK : K = (k0 : Int)) :
    Calls Tryz.prog 14 #[.agg #[.slice A na ca, .slice L nl cl, .float .f32 r, .float .f32 d, .float .f32 s], .int .i64 K] w fun e w' => e = .returned (.int .i64 ((k0 : Int) + (na : Int) + (nl : Int))) ∧ Below w.heap.size w w' := by
  have HB : ∀ o1, Hid (Below w.heap.size w (w.alloc o1)) := fun _ => Lib.hid ((Below.refl _ _).alloc (Nat.le_refl _) _)
  have H1 := Lib.hid h.1
  have H2 := Lib.hid h.2.1
  clear h
  subst hK
  go_enter Tryz.func14, Tryz.ntmps14
  go_wp2_with fail
  refine (l_heldF32 A b1 ca k0 na _ (H1.out.below (HB _).out).a (by omega) (by omega) _ rfl).mono ?_
  rintro e w' ⟨m1, rfl, rfl⟩
  have g1 : (0 : Int) ≤ (k0 : Int) + (na : Int) := by omega
  have g2 : (0 : Int) ≤ (k0 : Int) + (na : Int) + (nl : Int) := by omega
  go_wp2_with fail
  refine (l_heldF32 L b2 cl (k0 + na) nl _ (H2.out.below (below_draws (HB _).out _)).a (by omega) (by omega) _ (by omega)).mono ?_
  rintro e w' ⟨m2, rfl, rfl⟩
  go_wp2
  go_ret
  exact ⟨rfl, by repeat (first | exact (HB _).out | refine below_draws ?_ _)⟩
end Go.Proofs.YtknabmknboffgaaGreatDoor
