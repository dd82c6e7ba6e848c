/- The power of a wind in a disc: mathematics. No statement is proved here. -/
import Derived.Test.YtpmjikchlofebaaRnd
import Derived.Test.YtpmjikchlofebaaBinM
import Derived.Test.YtpmjikchlofebaaNotFin
import Derived.Test.YtpmjikchlofebaaAirL
import Derived.Test.YtpmjikchlofebaaRoot
import Derived.Test.YtpmjikchlofebaaApp
namespace Go.Proofs.Ytpmjikchlofebaa
open Go Go.RowKit
theorem one_decodeD : FloatKind.f32.format.read 1065353216 = .number false 8388608 (-23) := by decide +kernel
/-- the rung of what is read -/
theorem read_rung_of {b : Nat} {s : Bool} {n : Nat} {j : Int} (h : FloatKind.f32.format.read b = .number s n j) : ∃ rc, rc < FloatKind.f32.format.infRung ∧ FloatKind.f32.format.read (FloatKind.f32.format.word s rc) = .number s n j := by
  have hsw := FloatKind.f32.format.infRung_lt
  have hsw0 : 0 < FloatKind.f32.format.signWeight := Nat.two_pow_pos _
  have hr : b % FloatKind.f32.format.signWeight < FloatKind.f32.format.infRung := by
    by_cases hr : b % FloatKind.f32.format.signWeight < FloatKind.f32.format.infRung
    · exact hr
    · exfalso
      have h2 : FloatKind.f32.format.binade ≤ FloatKind.f32.format.infRung := by decide +kernel
      unfold Ieee.Format.read at h
      simp only [] at h
      rw [if_neg (by omega)] at h
      split at h <;> first | contradiction | cases h | (split at h <;> first | contradiction | cases h)
  obtain ⟨s0, hs0⟩ : ∃ z, z = (b / FloatKind.f32.format.signWeight % 2 == 1) := ⟨_, rfl⟩
  have e : FloatKind.f32.format.read (FloatKind.f32.format.word s0 (b % FloatKind.f32.format.signWeight)) = FloatKind.f32.format.read b := by
    have hmod : FloatKind.f32.format.word s0 (b % FloatKind.f32.format.signWeight) % FloatKind.f32.format.signWeight = b % FloatKind.f32.format.signWeight := by
      unfold Ieee.Format.word; split
      · rw [Nat.add_mod_left, Nat.mod_mod]
      · rw [Nat.mod_mod]
    have hneg : (FloatKind.f32.format.word s0 (b % FloatKind.f32.format.signWeight) / FloatKind.f32.format.signWeight % 2 == 1) = s0 := by
      have hlt := Nat.mod_lt b hsw0
      unfold Ieee.Format.word
      cases s0
      · simp [Nat.div_eq_of_lt hlt]
      · simp only [if_true]
        rw [Nat.add_comm, Nat.add_div_right _ hsw0, Nat.div_eq_of_lt hlt]; rfl
    unfold Ieee.Format.read
    simp only [hmod, hneg, ← hs0]
  obtain ⟨M, E, h1, -⟩ := rung_parts fmt32 s0 hr
  rw [e, h] at h1
  simp only [Ieee.Datum.number.injEq] at h1
  obtain ⟨rfl, rfl, rfl⟩ := h1
  exact ⟨_, hr, e.trans h⟩
theorem geq_leN {x y m n : Nat} {i j : Int} (hx : FloatKind.f32.format.read x = .number false m i) (hy : FloatKind.f32.format.read y = .number false n j) (h : geq32 x y = true) : LeN n j m i := by
  unfold geq32 at h
  rw [order_numbers (k := .f32) hx hy] at h
  by_cases hlt : Ieee.signed false m (i - min i j).toNat < Ieee.signed false n (j - min i j).toNat
  · rw [Int.compare_eq_lt.2 hlt] at h
    cases h
  · simp only [Ieee.signed, Bool.false_eq_true, if_false, Nat.shiftLeft_eq] at hlt
    unfold LeN
    rw [Int.min_comm j i]
    omega
theorem leN_part {m n : Nat} {i j : Int} (h : LeN n j 8388608 (-23)) : LeN (m * n) (i + j) m i := by
  unfold LeN at h
  refine leN_of (b := i + min j (-23)) ?_ (by omega) (by omega)
  rw [show i + j - (i + min j (-23)) = j - min j (-23) by omega, show (i - (i + min j (-23))).toNat = 23 + (-23 - min j (-23)).toNat by omega, Nat.mul_assoc]
  refine Nat.mul_le_mul_left _ (Nat.le_trans h ?_)
  rw [Nat.pow_add]
  exact Nat.le_refl _
theorem leN_of_le2 {n : Nat} {j : Int} (h : Le2 n j 0) : LeN n j 8388608 (-23) := by
  obtain ⟨h1, h2⟩ := h
  unfold LeN
  by_cases hj : 0 < j
  · rw [h2 hj, Nat.zero_mul]; exact Nat.zero_le _
  · rw [show (8388608 : Nat) = 2 ^ 23 by decide, ← Nat.pow_add]
    calc n * 2 ^ (j - min j (-23)).toNat ≤ 2 ^ (0 - j).toNat * 2 ^ (j - min j (-23)).toNat := Nat.mul_le_mul_right _ h1
      _ = 2 ^ ((0 - j).toNat + (j - min j (-23)).toNat) := (Nat.pow_add ..).symm
      _ ≤ _ := Nat.pow_le_pow_right (by decide) (by omega)
/-- a height less a part of a radius that is no greater is not below 0 -/
theorem hang_up {h r x mh : Nat} {eh : Int} (hh : FloatKind.f32.format.read h = .number false mh eh) (hr : amount r = true) (hge : geq32 h r = true) (hx : Bd .f32 0 x) : upD (FloatKind.f32.decode (fop .add .f32 h (fop .mul .f32 r x))) := by
  obtain ⟨s, m, i, dr, hs⟩ := amount_up hr
  obtain ⟨t, n, j, dx, hl⟩ := hx
  obtain ⟨rc, hrc, hw⟩ := read_rung_of dr
  have hy : fop .mul .f32 r x = FloatKind.f32.format.write (.number (s ^^ t) (m * n) (i + j)) := by
    unfold fop floatBits Ieee.Format.mul
    simp only []
    rw [dr, show FloatKind.f32.format.read x = .number t n j from dx]
    simp only [Ieee.Datum.product, Option.map_some, Option.getD_some]
    exact canon_of_not (write_not_nan FloatKind.f32.format rfl)
  obtain ⟨m', e', dy, hle⟩ := write_mono fmt32 (s := s ^^ t) hrc hw (leN_part (m := m) (i := i) (leN_of_le2 hl))
  rw [hy]
  have hrh : LeN m i mh eh := by
    rcases hs with rfl | rfl
    · exact geq_leN hh dr hge
    · unfold LeN; rw [Nat.zero_mul]; exact Nat.zero_le _
  have hmh := leN_trans hle hrh
  generalize FloatKind.f32.format.write (.number (s ^^ t) (m * n) (i + j)) = y at dy
  generalize (s ^^ t) = u at dy
  have e1 : ∃ v b, fop .add .f32 h y = FloatKind.f32.format.write (.number false v b) := by
    unfold fop floatBits Ieee.Format.add
    simp only []
    rw [hh, dy]
    unfold LeN at hmh
    rw [Int.min_comm] at hmh
    simp only [Ieee.Datum.sum, Ieee.signed, Bool.false_eq_true, if_false, Nat.shiftLeft_eq, Option.map_some, Option.getD_some]
    generalize m' * 2 ^ (e' - min eh e').toNat = B at hmh ⊢
    generalize mh * 2 ^ (eh - min eh e').toNat = A at hmh ⊢
    have hsg : (if (A : Int) + (if u = true then -(B : Int) else (B : Int)) = 0 then (false && u) else decide ((A : Int) + (if u = true then -(B : Int) else (B : Int)) < 0)) = false := by
      cases u
      · simp only [Bool.false_eq_true, if_false]
        split
        · rfl
        · exact decide_eq_false (by omega)
      · simp only [if_true]
        split
        · rfl
        · exact decide_eq_false (by omega)
    rw [hsg]
    exact ⟨_, _, canon_of_not (write_not_nan FloatKind.f32.format rfl)⟩
  obtain ⟨v, b, e1⟩ := e1
  rw [e1]
  exact upD_write _ (.inl rfl) up32
theorem mul_upDD {x y : Nat} (hx : amount x = true) (hy : upD (FloatKind.f32.decode y)) (hf : fin .f32 y = true) : upD (FloatKind.f32.decode (fop .mul .f32 x y)) := by
  obtain ⟨s, m, i, dx, hs⟩ := amount_up hx
  obtain ⟨t, n, j, dy⟩ := number_of_fin hf
  have hy : upD (FloatKind.f32.format.read y) := hy
  rw [dy] at hy
  have ht : t = false ∨ n = 0 := hy
  have e1 : fop .mul .f32 x y = FloatKind.f32.format.write (.number (s ^^ t) (m * n) (i + j)) := by
    unfold fop floatBits Ieee.Format.mul
    simp only []
    rw [dx, dy]
    simp only [Ieee.Datum.product, Option.map_some, Option.getD_some]
    exact canon_of_not (write_not_nan FloatKind.f32.format rfl)
  rw [e1]
  refine upD_write _ ?_ up32
  rcases hs with rfl | rfl
  · rcases ht with rfl | rfl
    · exact .inl rfl
    · exact .inr (Nat.mul_zero _)
  · exact .inr (Nat.zero_mul _)
theorem up_amountD {x : Nat} (hu : upD (FloatKind.f32.decode x)) (hf : fin .f32 x = true) : amount x = true := by
  obtain ⟨s, m, e, hd⟩ := number_of_fin hf
  have hu : upD (FloatKind.f32.format.read x) := hu
  rw [hd] at hu
  have hs : s = false ∨ m = 0 := hu
  unfold amount geq32
  rw [hf, order_numbers (k := .f32) hd (show FloatKind.f32.decode 0 = .number false 0 (-149) by decide +kernel)]
  have h0 : Ieee.signed false 0 (-149 - min e (-149)).toNat ≤ Ieee.signed s m (e - min e (-149)).toNat := by
    unfold Ieee.signed
    rcases hs with rfl | rfl
    · simp only [Nat.zero_shiftLeft, Bool.false_eq_true, if_false]
      exact Int.natCast_nonneg _
    · simp only [Nat.zero_shiftLeft]
      split <;> simp
  rcases Int.lt_or_eq_of_le h0 with h1 | h1
  · rw [Int.compare_eq_gt.2 h1]; rfl
  · rw [h1, Int.compare_eq_eq.2 rfl]; rfl
theorem f32_fracD : FloatKind.f32.format.fractionBits = 23 := by decide
/-- the quotient of a lesser number and a greater one is at most 1 -/
theorem quo_le1 {x y m n : Nat} {s : Bool} {i j : Int} (hx : FloatKind.f32.format.read x = .number s m i) (hy : FloatKind.f32.format.read y = .number false n j) (hn : n ≠ 0) (hle : LeN m i n j) : Bd .f32 0 (fop .quo .f32 x y) := by
  have e : floatBits .quo .f32 x y = some (FloatKind.f32.encode (.number s (2 * (m <<< (FloatKind.f32.format.fractionBits + 2 + n.log2 - m.log2) / n) + (m <<< (FloatKind.f32.format.fractionBits + 2 + n.log2 - m.log2) % n != 0).toNat) (i - j - ((FloatKind.f32.format.fractionBits + 2 + n.log2 - m.log2 : Nat) : Int) - 1))) := by
    unfold floatBits Ieee.Format.div
    rw [hx, hy]
    simp only [Ieee.Datum.quotient, if_neg hn, Bool.xor_false]
    rfl
  rw [f32_fracD] at e
  generalize hmore : 23 + 2 + n.log2 - m.log2 = more at e
  have hp : 0 < n := by omega
  have hl2 : Le2 (2 * (m <<< more / n) + (m <<< more % n != 0).toNat) (i - j - more - 1) 0 := by
    by_cases h0 : m = 0
    · subst h0; simp [le2_zero]
    · have hm1 : 2 ^ m.log2 ≤ m := Nat.log2_self_le h0
      have hn1 : n < 2 ^ (n.log2 + 1) := Nat.lt_log2_self
      unfold LeN at hle
      generalize hb : min i j = b at hle
      have hlog : m.log2 + (i - b).toNat ≤ n.log2 + (j - b).toNat := by
        have e1 : 2 ^ (m.log2 + (i - b).toNat) < 2 ^ (n.log2 + 1 + (j - b).toNat) := by
          rw [Nat.pow_add, Nat.pow_add 2 (n.log2 + 1)]
          calc 2 ^ m.log2 * 2 ^ (i - b).toNat ≤ m * 2 ^ (i - b).toNat := Nat.mul_le_mul_right _ hm1
            _ ≤ n * 2 ^ (j - b).toNat := hle
            _ < 2 ^ (n.log2 + 1) * 2 ^ (j - b).toNat := Nat.mul_lt_mul_of_pos_right hn1 (Nat.two_pow_pos _)
        have := (Nat.pow_lt_pow_iff_right (a := 2) (by decide)).1 e1
        omega
      refine ⟨quo_core hp ?_, fun hh => by omega⟩
      refine Nat.le_of_mul_le_mul_right (c := 2 ^ (i - b).toNat) ?_ (Nat.two_pow_pos _)
      have e2 : m * 2 ^ more * 2 * 2 ^ (i - b).toNat = m * 2 ^ (i - b).toNat * 2 ^ (more + 1) := by
        rw [Nat.pow_succ, Nat.mul_assoc, Nat.mul_assoc, Nat.mul_assoc]
        congr 1
        rw [Nat.mul_comm (2 ^ (i - b).toNat)]
        rw [Nat.mul_assoc]
      have e3 : n * 2 ^ (0 - (i - j - (more : Int) - 1)).toNat * 2 ^ (i - b).toNat = n * 2 ^ (j - b).toNat * 2 ^ (more + 1) := by
        rw [Nat.mul_assoc, ← Nat.pow_add, Nat.mul_assoc, ← Nat.pow_add]
        exact congrArg (fun x => n * 2 ^ x) (by omega)
      rw [e2, e3]
      exact Nat.mul_le_mul_right _ hle
  have hb := bd_write fmt32 (s := s) hl2 (by decide) (by decide)
  unfold fop
  rw [e, Option.getD_some, bd_canon hb]; exact hb
/-- what is written of a number that is not nothing is not nothing -/
theorem write_someD {s : Bool} {m : Nat} {e : Int} (h0 : m ≠ 0) (he : -149 ≤ e) {t : Bool} {m' : Nat} {e' : Int} (hr : FloatKind.f32.format.read (FloatKind.f32.format.write (.number s m e)) = .number t m' e') : m' ≠ 0 := by
  have hr' : FloatKind.f32.format.read (FloatKind.f32.format.nearest s m e) = .number t m' e' := hr
  unfold Ieee.Format.nearest at hr'
  rw [if_neg h0] at hr'
  simp only [f32_frac, f32_least, f32_binade, f32_inf] at hr'
  have hle : 2 ^ m.log2 ≤ m := Nat.log2_self_le h0
  generalize hl : m.log2 = l at *
  have key : ∀ r : Nat, 1 ≤ r → r ≤ 255 * 2 ^ 23 → FloatKind.f32.format.read (FloatKind.f32.format.word s r) = .number t m' e' → m' ≠ 0 := by
    intro r h1 h2 hh
    rcases Nat.lt_or_ge r (255 * 2 ^ 23) with h3 | h3
    · obtain ⟨M, E, hrd, hE, hR, -, h5⟩ := rung_parts fmt32 s (r := r) (by rw [f32_inf]; exact h3)
      rw [hrd] at hh
      simp only [Ieee.Datum.number.injEq] at hh
      obtain ⟨-, rfl, rfl⟩ := hh
      intro hM
      subst hM
      rcases h5 with h5 | h5
      · subst h5; simp at hR; omega
      · have := Nat.two_pow_pos 23; omega
    · have : r = FloatKind.f32.format.infRung := by rw [f32_inf]; omega
      rw [this] at hh
      have := read_word_both fmt32 (r := FloatKind.f32.format.infRung) (Nat.le_refl _)
      exfalso
      rcases this with ⟨M, E, h⟩ | h
      · have h6 := h false
        have : FloatKind.f32.format.read (FloatKind.f32.format.word false FloatKind.f32.format.infRung) = .infinity false := by decide +kernel
        rw [this] at h6; cases h6
      · rw [h s] at hh; cases hh
  refine key _ ?_ (Nat.min_le_right ..) hr'
  have hb : 0 < 2 ^ 23 := Nat.two_pow_pos 23
  by_cases hc : -149 < e + (l : Int) - 23
  · have h5 : 1 ≤ (max (e + (l : Int) - (23 : Nat)) (-149) - -149).toNat := by omega
    have := Nat.mul_le_mul_right (2 ^ 23) h5
    omega
  · have hd : (max (e + (l : Int) - (23 : Nat)) (-149) - e).toNat = 0 := by omega
    rw [hd, cut_zero]
    have := Nat.two_pow_pos (e - max (e + (l : Int) - (23 : Nat)) (-149)).toNat
    have h6 : 1 ≤ m <<< (e - max (e + (l : Int) - (23 : Nat)) (-149)).toNat := by rw [Nat.shiftLeft_eq]; exact Nat.mul_pos (Nat.pos_of_ne_zero h0) this
    omega
/-- what a height shares with another: at most 1 -/
theorem share_bd {z h : Nat} (hz : amount z = true) (hh : posi h = true) (hf : fin .f32 (fop .quo .f32 (fop .sub .f32 z h) (fop .add .f32 z h)) = true) : Bd .f32 0 (fop .quo .f32 (fop .sub .f32 z h) (fop .add .f32 z h)) := by
  obtain ⟨sz, mz, ez, dz, hs⟩ := amount_up hz
  obtain ⟨mh, eh, dh, h0⟩ := posi_up hh
  have hfa : fin .f32 (fop .sub .f32 z h) = true := by
    by_cases e : fin .f32 (fop .sub .f32 z h) = true
    · exact e
    · rw [quoL_not_fin (by simpa using e)] at hf; cases hf
  have ea : ∃ (s : Bool) (v : Nat), fop .sub .f32 z h = FloatKind.f32.format.write (.number s v (min ez eh)) ∧ v ≤ mz * 2 ^ (ez - min ez eh).toNat + mh * 2 ^ (eh - min ez eh).toNat := by
    unfold fop floatBits Ieee.Format.sub
    simp only []
    rw [dz, dh]
    simp only [Ieee.Datum.opposite, Ieee.Datum.sum, Ieee.signed, Bool.not_false, if_true, Nat.shiftLeft_eq, Option.map_some, Option.getD_some]
    generalize mz * 2 ^ (ez - min ez eh).toNat = A
    generalize mh * 2 ^ (eh - min ez eh).toNat = B
    refine ⟨_, _, canon_of_not (write_not_nan FloatKind.f32.format rfl), ?_⟩
    cases sz
    · simp only [Bool.false_eq_true, if_false]; omega
    · simp only [if_true]; omega
  have eb : ∃ (v : Nat), fop .add .f32 z h = FloatKind.f32.format.write (.number false v (min ez eh)) ∧ mz * 2 ^ (ez - min ez eh).toNat + mh * 2 ^ (eh - min ez eh).toNat ≤ v ∧ v ≠ 0 := by
    have hB : 0 < mh * 2 ^ (eh - min ez eh).toNat := Nat.mul_pos (Nat.pos_of_ne_zero h0) (Nat.two_pow_pos _)
    unfold fop floatBits Ieee.Format.add
    simp only []
    rw [dz, dh]
    simp only [Ieee.Datum.sum, Ieee.signed, Bool.false_eq_true, if_false, Nat.shiftLeft_eq, Option.map_some, Option.getD_some, Bool.and_false]
    have hA : sz = true → mz * 2 ^ (ez - min ez eh).toNat = 0 := by
      rintro rfl
      rcases hs with hs | hs
      · cases hs
      · rw [hs, Nat.zero_mul]
    generalize mz * 2 ^ (ez - min ez eh).toNat = A at hA ⊢
    generalize mh * 2 ^ (eh - min ez eh).toNat = B at hB ⊢
    have hsg : (if (if sz = true then -(A : Int) else (A : Int)) + (B : Int) = 0 then false else decide ((if sz = true then -(A : Int) else (A : Int)) + (B : Int) < 0)) = false := by
      cases sz
      · simp only [Bool.false_eq_true, if_false]
        split
        · rfl
        · exact decide_eq_false (by omega)
      · have := hA rfl
        simp only [if_true]
        split
        · rfl
        · exact decide_eq_false (by omega)
    rw [hsg]
    refine ⟨_, canon_of_not (write_not_nan FloatKind.f32.format rfl), ?_, ?_⟩
    · cases sz
      · simp only [Bool.false_eq_true, if_false]; omega
      · have := hA rfl
        simp only [if_true]; omega
    · cases sz
      · simp only [Bool.false_eq_true, if_false]; omega
      · have := hA rfl
        simp only [if_true]; omega
  obtain ⟨s, v, ea, hv⟩ := ea
  obtain ⟨v2, eb, hv2, h2⟩ := eb
  obtain ⟨sa, ma, ia, da⟩ := number_of_fin hfa
  have hup : upD (FloatKind.f32.format.read (fop .add .f32 z h)) := by rw [eb]; exact upD_write _ (.inl rfl) up32
  cases db : FloatKind.f32.format.read (fop .add .f32 z h) with
  | nan s f => rw [db] at hup; exact hup.elim
  | infinity sb =>
    have e : ∃ t e, floatBits .quo .f32 (fop .sub .f32 z h) (fop .add .f32 z h) = some (FloatKind.f32.encode (.number t 0 e)) := by
      unfold floatBits Ieee.Format.div
      rw [da, db]
      exact ⟨_, _, rfl⟩
    obtain ⟨t, e', e⟩ := e
    have hb := bd_write fmt32 (s := t) (le2_zero e' 0) (by decide) (by decide)
    unfold fop at e ⊢
    rw [e, Option.getD_some, bd_canon hb]; exact hb
  | number sb mb ib =>
    have hsb : sb = false ∧ mb ≠ 0 := by
      have hb2 : FloatKind.f32.format.read (FloatKind.f32.format.write (.number false v2 (min ez eh))) = .number sb mb ib := by rw [← eb]; exact db
      obtain ⟨-, hez, -, -⟩ := f32_norm dz
      obtain ⟨-, heh, -, -⟩ := f32_norm dh
      exact ⟨read_write_neg hb2, write_someD h2 (by omega) hb2⟩
    obtain ⟨rfl, hmb⟩ := hsb
    refine quo_le1 da db hmb ?_
    by_cases hv0 : v = 0
    · have : ma = 0 := by
        rw [ea, hv0] at da
        have e0 : FloatKind.f32.format.read (FloatKind.f32.format.write (.number s 0 (min ez eh))) = .number s 0 (-149) := by
          show FloatKind.f32.format.read (FloatKind.f32.format.nearest s 0 (min ez eh)) = _
          unfold Ieee.Format.nearest
          rw [if_pos rfl]
          cases s <;> decide +kernel
        rw [e0] at da
        simp only [Ieee.Datum.number.injEq] at da
        exact da.2.1.symm
      rw [this]
      unfold LeN; rw [Nat.zero_mul]; exact Nat.zero_le _
    · have hge := geq_write (e := min ez eh) (j := min ez eh) hv0 (show LeN v (min ez eh) v2 (min ez eh) by unfold LeN; exact Nat.mul_le_mul_right _ (Nat.le_trans hv hv2))
      rw [← eb] at hge
      rcases read_write_both fmt32 v (min ez eh) with ⟨M, E, hw⟩ | hw
      · have d1 := hw s
        rw [← ea, da] at d1
        simp only [Ieee.Datum.number.injEq] at d1
        obtain ⟨-, rfl, rfl⟩ := d1
        exact geq_leN db (hw false) hge
      · have d1 := hw s
        rw [← ea, da] at d1
        cases d1
end Go.Proofs.Ytpmjikchlofebaa
