/- Bounds of coordinates, of sums of squares and of their roots. No statement is proved here. -/
import Derived.Test.YtmadlabnhjhfiaaRow
import Derived.Test.YtmadlabnhjhfiaaRoot
import Derived.Test.YtmadlabnhjhfiaaMono
import Derived.Test.YtmadlabnhjhfiaaSize
namespace Go.Proofs.Ytmadlabnhjhfiaa
open Go Go.RowKit
theorem bd_of_key {x : Nat} {j : Int} (hf : fin .f32 x = true) (hj : -149 ≤ j) (h : (key x).natAbs ≤ 2 ^ (j + 149).toNat) : Bd .f32 j x := by
  obtain ⟨s, m, e, hd⟩ := fin_number hf
  obtain ⟨-, he, -, -⟩ := f32_norm hd
  refine ⟨s, m, e, hd, ?_⟩
  have hk : (key x).natAbs = m * 2 ^ (e + 149).toNat := by
    rw [key_num hd, ← Nat.shiftLeft_eq]
    cases s
    · exact Int.natAbs_natCast _
    · exact (Int.natAbs_neg _).trans (Int.natAbs_natCast _)
  rw [hk] at h
  by_cases hc : e ≤ j
  · refine ⟨?_, fun h' => by omega⟩
    refine Nat.le_of_mul_le_mul_right (c := 2 ^ (e + 149).toNat) ?_ (Nat.two_pow_pos _)
    rw [← Nat.pow_add, show (j - e).toNat + (e + 149).toNat = (j + 149).toNat by omega]
    exact h
  · have hm : m = 0 := by
      rcases Nat.eq_zero_or_pos m with h0 | h0
      · exact h0
      · exfalso
        have h2 : 2 ^ ((j + 149).toNat + 1) ≤ 2 ^ (e + 149).toNat := Nat.pow_le_pow_right (by decide) (by omega)
        have h3 : 2 ^ (e + 149).toNat ≤ m * 2 ^ (e + 149).toNat := Nat.le_mul_of_pos_left _ h0
        have h4 := Nat.two_pow_pos (j + 149).toNat
        rw [Nat.pow_succ] at h2
        omega
    subst hm
    exact le2_zero ..
theorem key_far : key 1203982336 = 12800000 * 2 ^ 142 := by
  rw [key_num (show FloatKind.f32.decode 1203982336 = .number false 12800000 (-7) by decide +kernel)]
  decide
theorem key_nfar : key 3351465984 = -(12800000 * 2 ^ 142) := by
  rw [key_num (show FloatKind.f32.decode 3351465984 = .number true 12800000 (-7) by decide +kernel)]
  decide
theorem bd_near {x : Nat} (h : nearF x = true) : Bd .f32 17 x := by
  have hf := nearF_fin h
  unfold nearF within at h
  rw [Bool.and_eq_true] at h
  obtain ⟨h1, h2⟩ := h
  have f1 : fin .f32 1203982336 = true := by decide +kernel
  have f2 : fin .f32 3351465984 = true := by decide +kernel
  rw [leq_key hf f1, key_far] at h2
  have h3 := lss_not_geq (isn_of_fin hf) (isn_of_fin f2)
  rw [h1, lss_key hf f2, key_nfar] at h3
  have h2 := of_decide_eq_true h2
  have h3 := of_decide_eq_false h3
  refine bd_of_key hf (by decide) ?_
  have e1 : (2 : Nat) ^ ((17 : Int) + 149).toNat = 2 ^ 166 := rfl
  rw [e1]
  have e2 : (12800000 : Int) * 2 ^ 142 ≤ 2 ^ 166 := by decide
  have e3 : ((2 : Nat) ^ 166 : Nat) = (2 : Int) ^ 166 := by decide
  generalize (12800000 : Int) * 2 ^ 142 = A at *
  generalize (2 : Int) ^ 166 = B at *
  omega
/-- a square is not negative -/
theorem bdp_sq {x : Nat} {a : Int} (h : Bd .f32 a x) (hlo : -62 ≤ a) (hhi : a ≤ 63) : BdP .f32 (a + a) (fop .mul .f32 x x) := by
  obtain ⟨s, m, e, hd, hl⟩ := h
  have hb : BdP .f32 (a + a) (FloatKind.f32.encode (.number false (m * m) (e + e))) := bdp_write fmt32 (le2_mul hl hl) (by omega) (by omega)
  have d1 : FloatKind.f32.format.read x = .number s m e := hd
  have eb : floatBits .mul .f32 x x = some (FloatKind.f32.encode (.number false (m * m) (e + e))) := by
    unfold floatBits Ieee.Format.mul
    rw [d1]
    simp only [Ieee.Datum.product, Option.map_some]
    cases s <;> rfl
  unfold fop
  rw [eb, Option.getD_some, bd_canon (bdp_bd hb)]; exact hb
theorem bdp_plus {x y : Nat} {a : Int} (hx : BdP .f32 a x) (hy : BdP .f32 a y) (hlo : -125 ≤ a) (hhi : a + 1 ≤ 127) : BdP .f32 (a + 1) (fop .add .f32 x y) := by
  obtain ⟨m, i, hd, hl⟩ := hx
  obtain ⟨n, j, hd', hl'⟩ := hy
  have d1 : FloatKind.f32.format.read x = .number false m i := hd
  have d2 : FloatKind.f32.format.read y = .number false n j := hd'
  have hsum : (Ieee.Datum.number false m i).sum (.number false n j) = some (.number false (m * 2 ^ (i - min i j).toNat + n * 2 ^ (j - min i j).toNat) (min i j)) := by
    simp only [Ieee.Datum.sum, Ieee.signed, Bool.false_eq_true, if_false, Nat.shiftLeft_eq, Bool.and_self]
    generalize m * 2 ^ (i - min i j).toNat = A
    generalize n * 2 ^ (j - min i j).toNat = B
    have e1 : (if (A : Int) + (B : Int) = 0 then false else decide ((A : Int) + (B : Int) < 0)) = false := by
      split
      · rfl
      · exact decide_eq_false (by omega)
    have e2 : ((A : Int) + (B : Int)).natAbs = A + B := by omega
    rw [e1, e2]
  generalize hbase : min i j = base at hsum
  have hA := le2_down hl (base := base) (by omega)
  have hB := le2_down hl' (base := base) (by omega)
  rw [Nat.shiftLeft_eq] at hA hB
  have hle := le2_add hA hB (Nat.le_refl _)
  have hb : BdP .f32 (a + 1) (FloatKind.f32.encode (.number false (m * 2 ^ (i - base).toNat + n * 2 ^ (j - base).toNat) base)) := bdp_write fmt32 hle (by omega) hhi
  have eb : floatBits .add .f32 x y = some (FloatKind.f32.encode (.number false (m * 2 ^ (i - base).toNat + n * 2 ^ (j - base).toNat) base)) := by
    unfold floatBits Ieee.Format.add
    rw [d1, d2]
    exact congrArg (Option.map FloatKind.f32.format.write) hsum
  unfold fop
  rw [eb, Option.getD_some, bd_canon (bdp_bd hb)]; exact hb
theorem bdp_mono' {x : Nat} {a c : Int} (h : BdP .f32 a x) (hc : a ≤ c) : BdP .f32 c x := bdp_mono h hc
theorem wide_num0 {b : Nat} {s : Bool} {m : Nat} {e : Int} (h : FloatKind.f32.decode b = .number s m e) : ∃ t : Nat, FloatKind.f64.decode (wide b) = .number s (m * 2 ^ t) (e - t) := by
  obtain ⟨h1, h2, h3, -⟩ := f32_norm h
  have hn : isn .f32 b = false := by unfold isn; rw [h]; rfl
  have hl : m.log2 ≤ 23 := by
    by_cases h0 : m = 0
    · rw [h0]; decide
    · have := (Nat.log2_lt h0 (k := 24)).2 (by simpa using h1)
      omega
  have hm : m < 2 ^ (52 + 1) := Nat.lt_of_lt_of_le h1 (Nat.pow_le_pow_right (by decide) (by decide))
  obtain ⟨t, ht⟩ := read_exact fmt64 s (m := m) (e := e) hm (by omega) (by omega) (by decide)
  refine ⟨t, ?_⟩
  unfold wide
  rw [if_neg (by rw [hn]; decide), h]
  exact ht
theorem bdp_wide {x : Nat} {a : Int} (h : BdP .f32 a x) : BdP .f64 a (wide x) := by
  obtain ⟨m, e, hd, hl⟩ := h
  obtain ⟨t, ht⟩ := wide_num0 hd
  exact ⟨_, _, ht, (le2_shift t).2 hl⟩
theorem root_bdp {x : Nat} {j : Int} (h : BdP .f32 (2 * j) x) (hlo : -125 ≤ j) (hhi : j ≤ 127) : BdP .f32 j (canon .f32 (rootF x)) := by
  have hw := bdp_wide h
  have hc : canon .f64 (wide x) = wide x := bd_canon (bdp_bd hw)
  obtain ⟨-, h2⟩ := bdp_sqrt hw (by omega) (by omega)
  obtain ⟨m, e, hd, hl⟩ := h2
  unfold rootF
  rw [hc, narrow_number hd]
  have hb := bdp_write fmt32 hl (by omega) (by omega)
  rw [bd_canon (bdp_bd hb)]
  exact hb
/-- read with either sign: the same but for the sign -/
theorem read_word_both {f : Ieee.Format} {p : Nat} {L top : Int} (F : Fmt f p L top) {r : Nat} (hr : r ≤ f.infRung) : (∃ M E, ∀ s, f.read (f.word s r) = .number s M E) ∨ ∀ s, f.read (f.word s r) = .infinity s := by
  have hsw := f.infRung_lt
  have hsw0 : 0 < f.signWeight := Nat.two_pow_pos _
  have hmod : ∀ s, f.word s r % f.signWeight = r := by
    intro s
    unfold Ieee.Format.word; split
    · rw [Nat.add_mod_left, Nat.mod_eq_of_lt (by omega)]
    · rw [Nat.mod_eq_of_lt (by omega)]
  have hneg : ∀ s, (f.word s r / f.signWeight % 2 == 1) = s := by
    intro s
    unfold Ieee.Format.word
    cases s
    · simp [Nat.div_eq_of_lt (show r < f.signWeight by omega)]
    · simp only [if_true]
      rw [Nat.add_comm, Nat.add_div_right _ hsw0, Nat.div_eq_of_lt (by omega)]; rfl
  unfold Ieee.Format.read
  simp only [hmod, hneg]
  by_cases h : r < f.binade
  · exact .inl ⟨r, f.leastPlace, fun s => by rw [if_pos h]⟩
  · by_cases h2 : r < f.infRung
    · exact .inl ⟨_, _, fun s => by rw [if_neg h, if_pos h2]⟩
    · refine .inr fun s => ?_
      rw [if_neg h, if_neg h2, if_pos (by omega)]
theorem read_write_both {f : Ieee.Format} {p : Nat} {L top : Int} (F : Fmt f p L top) (m : Nat) (e : Int) : (∃ M E, ∀ s, f.read (f.write (.number s m e)) = .number s M E) ∨ ∀ s, f.read (f.write (.number s m e)) = .infinity s := by
  show (∃ M E, ∀ s, f.read (f.nearest s m e) = .number s M E) ∨ ∀ s, f.read (f.nearest s m e) = .infinity s
  unfold Ieee.Format.nearest
  by_cases h0 : m = 0
  · simp only [h0, if_true]
    exact read_word_both F (Nat.zero_le _)
  · simp only [if_neg h0]
    have hc : ∀ s n d, Ieee.Toward.even.cut s n d = Ieee.Toward.even.cut false n d := fun s n d => by cases s <;> rfl
    simp only [hc]
    exact read_word_both F (Nat.min_le_right ..)
/-- the square of a difference does not turn on the order -/
theorem sq_diff {a b : Nat} (ha : fin .f32 a = true) (hb : fin .f32 b = true) : fop .mul .f32 (fop .sub .f32 a b) (fop .sub .f32 a b) = fop .mul .f32 (fop .sub .f32 b a) (fop .sub .f32 b a) := by
  obtain ⟨s, m, e, da⟩ := fin_number ha
  obtain ⟨t, n, j, db⟩ := fin_number hb
  have da' : FloatKind.f32.format.read a = .number s m e := da
  have db' : FloatKind.f32.format.read b = .number t n j := db
  have key : ∃ (s1 s2 : Bool) (M : Nat) (E : Int), floatBits .sub .f32 a b = some (FloatKind.f32.format.write (.number s1 M E)) ∧ floatBits .sub .f32 b a = some (FloatKind.f32.format.write (.number s2 M E)) := by
    unfold floatBits Ieee.Format.sub
    rw [da', db']
    simp only [Ieee.Datum.opposite, Ieee.Datum.sum, Option.map_some, Option.some.injEq]
    rw [Int.min_comm j e]
    have h1 : (Ieee.signed t n (j - min e j).toNat + Ieee.signed (!s) m (e - min e j).toNat).natAbs = (Ieee.signed s m (e - min e j).toNat + Ieee.signed (!t) n (j - min e j).toNat).natAbs := by
      unfold Ieee.signed
      cases s <;> cases t <;> simp only [Bool.not_true, Bool.not_false, Bool.false_eq_true, if_true, if_false] <;> omega
    rw [h1]
    exact ⟨_, _, _, _, rfl, rfl⟩
  obtain ⟨s1, s2, M, E, e1, e2⟩ := key
  have f1 : fop .sub .f32 a b = FloatKind.f32.format.write (.number s1 M E) := by
    unfold fop; rw [e1, Option.getD_some, canon_of_not (write_not_nan FloatKind.f32.format rfl)]
  have f2 : fop .sub .f32 b a = FloatKind.f32.format.write (.number s2 M E) := by
    unfold fop; rw [e2, Option.getD_some, canon_of_not (write_not_nan FloatKind.f32.format rfl)]
  rw [f1, f2]
  unfold fop floatBits Ieee.Format.mul
  rcases read_write_both fmt32 M E with ⟨M', E', h⟩ | h
  · simp only [h]
    cases s1 <;> cases s2 <;> rfl
  · simp only [h]
    cases s1 <;> cases s2 <;> rfl
/-- how far two rotors are from one another -/
def dstN (x y z t : Nat) : Nat := canon .f32 (rootF (fop .add .f32 (fop .mul .f32 (fop .sub .f32 x z) (fop .sub .f32 x z)) (fop .mul .f32 (fop .sub .f32 y t) (fop .sub .f32 y t))))
theorem dstN_comm {x y z t : Nat} (hx : fin .f32 x = true) (hy : fin .f32 y = true) (hz : fin .f32 z = true) (ht : fin .f32 t = true) : dstN x y z t = dstN z t x y := by
  unfold dstN
  rw [sq_diff hx hz, sq_diff hy ht]
theorem dstN_fin {x y z t : Nat} (hx : nearF x = true) (hy : nearF y = true) (hz : nearF z = true) (ht : nearF t = true) : fin .f32 (dstN x y z t) = true := by
  have h1 := bdp_sq (bd_sub fmt32 (bd_near hx) (bd_near hz) (by decide) (by decide)) (by decide) (by decide)
  have h2 := bdp_sq (bd_sub fmt32 (bd_near hy) (bd_near ht) (by decide) (by decide)) (by decide) (by decide)
  have h3 := bdp_plus h1 h2 (by decide) (by decide)
  exact bd_fin (bdp_bd (root_bdp (j := 19) (bdp_mono h3 (by decide)) (by decide) (by decide)))
end Go.Proofs.Ytmadlabnhjhfiaa
