/- The absolute value, told in two ways. No statement is proved here. -/
import Derived.Test.YtpmjikchlofebaaExact
import Derived.Test.YtpmjikchlofebaaFsure
namespace Go.Proofs.Ytpmjikchlofebaa
open Go Go.RowKit
/-- the absolute value as the specification has it -/
def siz (y : Nat) : Nat := bif leq32 y 0 then fop .sub .f32 0 y else y
theorem zero_decode : FloatKind.f32.decode 0 = .number false 0 (-149) := by decide +kernel
theorem key_num {b : Nat} {s : Bool} {m : Nat} {e : Int} (h : FloatKind.f32.decode b = .number s m e) : key b = Ieee.signed s m (e + 149).toNat := by unfold key; rw [h]
theorem sub_zero {y : Nat} {m : Nat} {e : Int} (h : FloatKind.f32.decode y = .number true m e) (h0 : m ≠ 0) : FloatKind.f32.decode (fop .sub .f32 0 y) = .number false m e := by
  obtain ⟨h24, he, he2, hn⟩ := f32_norm h
  have eb : floatBits .sub .f32 0 y = some (FloatKind.f32.format.nearest false (m * 2 ^ (e + 149).toNat) (-149)) := by
    unfold floatBits Ieee.Format.sub
    rw [show FloatKind.f32.format.read 0 = .number false 0 (-149) from zero_decode, show FloatKind.f32.format.read y = .number true m e from h]
    simp only [Ieee.Datum.opposite, Ieee.Datum.sum, Ieee.signed, Bool.not_true, Bool.false_eq_true, if_false, Nat.shiftLeft_eq]
    have h1 : min (-149 : Int) e = -149 := by omega
    rw [h1]
    have hp : m * 2 ^ (e - -149).toNat ≠ 0 := Nat.mul_ne_zero h0 (by have := Nat.two_pow_pos (e - -149).toNat; omega)
    have e1 : (e - -149).toNat = (e + 149).toNat := by omega
    rw [e1] at hp ⊢
    generalize m * 2 ^ (e + 149).toNat = A at hp
    rw [if_neg (by simp; omega)]
    simp only [Nat.zero_mul, Int.natCast_zero, Int.zero_add, Int.natAbs_natCast]
    rw [show decide ((A : Int) < 0) = false from decide_eq_false (by omega)]
    rfl
  have hx := near32 false (g := (e + 149).toNat) h0 h24 he he2 hn
  rw [show e - ((e + 149).toNat : Int) = -149 by omega] at hx
  unfold fop
  rw [eb, Option.getD_some, hx]
  have hr := read32 false h24 he he2 hn
  rw [canon_of_not (by unfold isn; rw [hr]; rfl), hr]
theorem sub_zero0 {y : Nat} {s : Bool} (h : FloatKind.f32.decode y = .number s 0 (-149)) : FloatKind.f32.decode (fop .sub .f32 0 y) = .number false 0 (-149) := by
  have eb : floatBits .sub .f32 0 y = some 0 := by
    unfold floatBits Ieee.Format.sub
    rw [show FloatKind.f32.format.read 0 = .number false 0 (-149) from zero_decode, show FloatKind.f32.format.read y = .number s 0 (-149) from h]
    cases s
    · show Option.map FloatKind.f32.format.write ((Ieee.Datum.number false 0 (-149)).sum (Ieee.Datum.number false 0 (-149)).opposite) = some 0
      decide +kernel
    · show Option.map FloatKind.f32.format.write ((Ieee.Datum.number false 0 (-149)).sum (Ieee.Datum.number true 0 (-149)).opposite) = some 0
      decide +kernel
  unfold fop
  rw [eb]
  decide +kernel
theorem siz_decode {y : Nat} (hy : fin .f32 y = true) : FloatKind.f32.decode (siz y) = FloatKind.f32.decode (abs32 y) := by
  cases hd : FloatKind.f32.decode y with
  | nan s f => unfold fin at hy; rw [hd] at hy; cases hy
  | infinity s => unfold fin at hy; rw [hd] at hy; cases hy
  | number s m e =>
    obtain ⟨h24, he, he2, hn⟩ := f32_norm hd
    rw [(abs_decode hd).1]
    have hk : leq32 y 0 = decide (key y ≤ 0) := by rw [leq_key hy (by decide +kernel), show key 0 = 0 by decide +kernel]
    have hs := key_num hd
    unfold Ieee.signed at hs
    rw [Nat.shiftLeft_eq] at hs
    by_cases h0 : m = 0
    · subst h0
      have e0 : ¬ -149 < e := fun h => by have := hn h; simp at this
      have e1 : e = -149 := by omega
      subst e1
      have hz : key y = 0 := by rw [hs]; cases s <;> simp
      unfold siz
      rw [hk, hz, decide_eq_true (by decide), if_pos rfl]
      exact sub_zero0 hd
    · have hp : 0 < m * 2 ^ (e + 149).toNat := Nat.mul_pos (Nat.pos_of_ne_zero h0) (Nat.two_pow_pos _)
      rw [if_neg h0]
      generalize m * 2 ^ (e + 149).toNat = A at hp hs
      cases s
      · simp only [Bool.false_eq_true, if_false] at hs
        unfold siz
        rw [hk, hs, decide_eq_false (by omega)]
        exact hd
      · simp only [if_true] at hs
        unfold siz
        rw [hk, hs, decide_eq_true (by omega)]
        exact sub_zero hd h0
theorem siz_add {s y : Nat} (hy : fin .f32 y = true) : fop .add .f32 (canon .f32 s) (canon .f32 (siz y)) = fop .add .f32 (canon .f32 s) (canon .f32 (abs32 y)) := by
  have h : FloatKind.f32.format.read (siz y) = FloatKind.f32.format.read (abs32 y) := siz_decode hy
  have e : floatBits .add .f32 (canon .f32 s) (canon .f32 (siz y)) = floatBits .add .f32 (canon .f32 s) (canon .f32 (abs32 y)) := by
    rw [floatBits_canon, floatBits_canon]
    unfold floatBits Ieee.Format.add
    rw [h]
  unfold fop
  rw [e]
end Go.Proofs.Ytpmjikchlofebaa
