/- Plain facts on the model's floats, up to which not-a-number it is: what an operation gives, how many draws it makes. No statement is proved here. -/
import Derived.WalkKit
import Derived.WalkLawsBesides
import Derived.Deep.Draws
import Derived.Lib.Hide
import Derived.KernelRfl
import Derived.ProofKit
import Derived.IntWalk
namespace Go.Proofs.Ytpmjikchlofebaa
open Go Go.RowKit

/-- The one not-a-number that stands for all. -/
def qnan : FloatKind → Nat
  | .f32 => 2143289344
  | .f64 => 9221120237041090560

def isn (k : FloatKind) (b : Nat) : Bool := (k.decode b).isNaN

def canon (k : FloatKind) (b : Nat) : Nat := if isn k b then qnan k else b

theorem isn_qnan (k : FloatKind) : isn k (qnan k) = true := by cases k <;> decide +kernel

theorem isn_canon (k : FloatKind) (b : Nat) : isn k (canon k b) = isn k b := by
  unfold canon; split
  · rename_i h; rw [isn_qnan, h]
  · rfl

theorem canon_canon (k : FloatKind) (b : Nat) : canon k (canon k b) = canon k b := by
  cases h : isn k b
  · have e : canon k b = b := by unfold canon; simp [h]
    rw [e, e]
  · have e : canon k b = qnan k := by unfold canon; simp [h]
    rw [e]; unfold canon; simp [isn_qnan]

theorem canon_of_not {k : FloatKind} {b : Nat} (h : isn k b = false) : canon k b = b := by unfold canon; simp [h]
theorem canon_of_nan {k : FloatKind} {b : Nat} (h : isn k b = true) : canon k b = qnan k := by unfold canon; simp [h]

theorem isn_iff {k : FloatKind} {b : Nat} : isn k b = true ↔ ∃ s f, k.format.read b = .nan s f := by
  unfold isn FloatKind.decode
  cases h : k.format.read b <;> simp [Ieee.Datum.isNaN]

theorem order_nan_left {k : FloatKind} {a b : Nat} (h : isn k a = true) : k.format.order a b = none := by
  obtain ⟨s, f, e⟩ := isn_iff.1 h
  unfold Ieee.Format.order; rw [e]; cases k.format.read b <;> rfl
theorem order_nan_right {k : FloatKind} {a b : Nat} (h : isn k b = true) : k.format.order a b = none := by
  obtain ⟨s, f, e⟩ := isn_iff.1 h
  unfold Ieee.Format.order; rw [e]; cases k.format.read a <;> rfl

theorem order_canon (k : FloatKind) (a b : Nat) : k.format.order (canon k a) (canon k b) = k.format.order a b := by
  cases ha : isn k a
  · cases hb : isn k b
    · rw [canon_of_not ha, canon_of_not hb]
    · rw [order_nan_right hb, order_nan_right (by rw [isn_canon, hb])]
  · rw [order_nan_left ha, order_nan_left (by rw [isn_canon, ha])]

theorem order_self {k : FloatKind} {a : Nat} : k.format.order a a = if isn k a then none else some .eq := by
  unfold isn FloatKind.decode Ieee.Format.order
  cases h : k.format.read a with
  | number s m i => simp [Ieee.Datum.order, Ieee.Datum.isNaN]
  | infinity s => simp [Ieee.Datum.order, Ieee.Datum.isNaN]
  | nan s f => simp [Ieee.Datum.order, Ieee.Datum.isNaN]

/-! ## + - * / -/

theorem floatBits_nan_left {op : BinOp} {k : FloatKind} {x y : Nat} (h : isn k x = true) : floatBits op k x y = none := by
  obtain ⟨s, f, e⟩ := isn_iff.1 h
  unfold floatBits
  cases op <;> simp only [] <;>
    simp only [Ieee.Format.add, Ieee.Format.sub, Ieee.Format.mul, Ieee.Format.div, e] <;>
    first | rfl | (cases k.format.read y <;> rfl)
theorem floatBits_nan_right {op : BinOp} {k : FloatKind} {x y : Nat} (h : isn k y = true) : floatBits op k x y = none := by
  obtain ⟨s, f, e⟩ := isn_iff.1 h
  unfold floatBits
  cases op <;> simp only [] <;>
    simp only [Ieee.Format.add, Ieee.Format.sub, Ieee.Format.mul, Ieee.Format.div, e] <;>
    first | rfl | (cases k.format.read x <;> rfl)

theorem floatBits_canon (op : BinOp) (k : FloatKind) (x y : Nat) : floatBits op k (canon k x) (canon k y) = floatBits op k x y := by
  cases hx : isn k x
  · cases hy : isn k y
    · rw [canon_of_not hx, canon_of_not hy]
    · rw [floatBits_nan_right hy, floatBits_nan_right (by rw [isn_canon, hy])]
  · rw [floatBits_nan_left hx, floatBits_nan_left (by rw [isn_canon, hx])]

def fop (op : BinOp) (k : FloatKind) (x y : Nat) : Nat := canon k ((floatBits op k x y).getD (qnan k))
def fopV (op : BinOp) (k : FloatKind) (x y : Nat) (w : World) : Nat :=
  (floatBits op k x y).getD (Question.cut (.nanBits k x y) (w.tape w.drawn (.nanBits k x y)))
def fopN (op : BinOp) (k : FloatKind) (x y : Nat) : Nat := if (floatBits op k x y).isSome then 0 else 1

theorem read_nan {k : FloatKind} {b : Nat} (h : k.format.infRung < b % k.format.signWeight) : isn k b = true := by
  rw [isn_iff]
  unfold Ieee.Format.read
  have h2 : k.format.binade ≤ k.format.infRung := by cases k <;> decide +kernel
  simp only []
  rw [if_neg (by omega), if_neg (by omega), if_neg (by omega)]
  exact ⟨_, _, rfl⟩

theorem cutArith (a b c d S : Nat) (h : c < d) (hd : b + 1 + d ≤ S) : b < ((a % 2) * S + b + 1 + c) % S := by
  rw [show a % 2 * S + b + 1 + c = (b + 1 + c) + S * (a % 2) by rw [Nat.mul_comm]; omega, Nat.add_mul_mod_self_left, Nat.mod_eq_of_lt (by omega)]
  omega
theorem cut_nan32 (t : Nat) : isn .f32 ((t % 2) * 2 ^ 31 + 0x7f800000 + 1 + (t / 2) % (2 ^ 23 - 1)) = true := by
  refine read_nan ?_
  have e1 : FloatKind.f32.format.infRung = 2139095040 := by decide +kernel
  have e2 : FloatKind.f32.format.signWeight = 2147483648 := by decide +kernel
  rw [e1, e2]
  exact cutArith t 2139095040 _ (2 ^ 23 - 1) 2147483648 (Nat.mod_lt _ (by decide)) (by decide)
theorem cut_nan64 (t : Nat) : isn .f64 ((t % 2) * 2 ^ 63 + 0x7ff0000000000000 + 1 + (t / 2) % (2 ^ 52 - 1)) = true := by
  refine read_nan ?_
  have e1 : FloatKind.f64.format.infRung = 9218868437227405312 := by decide +kernel
  have e2 : FloatKind.f64.format.signWeight = 9223372036854775808 := by decide +kernel
  rw [e1, e2]
  exact cutArith t 9218868437227405312 _ (2 ^ 52 - 1) 9223372036854775808 (Nat.mod_lt _ (by decide)) (by decide)

theorem cut_nanBits (k : FloatKind) (x y t : Nat) : isn k (Question.cut (.nanBits k x y) t) = true := by
  cases k
  · exact cut_nan32 t
  · exact cut_nan64 t
theorem cut_nanConv (k : FloatKind) (x t : Nat) : isn k (Question.cut (.nanConv k x) t) = true := by
  cases k
  · exact cut_nan32 t
  · exact cut_nan64 t

theorem canon_fopV (op : BinOp) (k : FloatKind) (x y : Nat) (w : World) : canon k (fopV op k x y w) = fop op k (canon k x) (canon k y) := by
  unfold fopV fop
  rw [floatBits_canon]
  cases floatBits op k x y with
  | some r => rfl
  | none => simp only [Option.getD_none]; rw [canon_of_nan (cut_nanBits ..), canon_of_nan (isn_qnan k)]

theorem canon_fop (op : BinOp) (k : FloatKind) (x y : Nat) : canon k (fop op k x y) = fop op k x y := canon_canon ..

section
variable {P : Program} (w : World)
theorem run_fop (op : BinOp) (hop : op = .add ∨ op = .sub ∨ op = .mul ∨ op = .quo) (t : TypeId) (k : FloatKind) (x y : Nat) :
    (binOp op t (.float k x) (.float k y)).run P w = .ok (.float k (fopV op k x y w)) (w.drewN (fopN op k x y)) := by
  cases h : floatBits op k x y with
  | some r =>
    rw [run_float_arith w op t k x y r h]
    simp [fopV, fopN, h, World.drewN_zero]
  | none =>
    have h' := h
    unfold floatBits at h'
    rcases hop with rfl | rfl | rfl | rfl <;> simp only at h' <;>
      simp [binOp, Op.floatArith, h', fopV, fopN, h, Question.forced, World.drew_is_drewN]
@[go_sem] theorem run_fadd (t : TypeId) (k : FloatKind) (x y : Nat) : (binOp .add t (.float k x) (.float k y)).run P w = .ok (.float k (fopV .add k x y w)) (w.drewN (fopN .add k x y)) := run_fop w _ (by simp) t k x y
@[go_sem] theorem run_fsub (t : TypeId) (k : FloatKind) (x y : Nat) : (binOp .sub t (.float k x) (.float k y)).run P w = .ok (.float k (fopV .sub k x y w)) (w.drewN (fopN .sub k x y)) := run_fop w _ (by simp) t k x y
@[go_sem] theorem run_fmul (t : TypeId) (k : FloatKind) (x y : Nat) : (binOp .mul t (.float k x) (.float k y)).run P w = .ok (.float k (fopV .mul k x y w)) (w.drewN (fopN .mul k x y)) := run_fop w _ (by simp) t k x y
@[go_sem] theorem run_fquo (t : TypeId) (k : FloatKind) (x y : Nat) : (binOp .quo t (.float k x) (.float k y)).run P w = .ok (.float k (fopV .quo k x y w)) (w.drewN (fopN .quo k x y)) := run_fop w _ (by simp) t k x y
end

/-! ## float32 to float64 and back -/

def wide (b : Nat) : Nat := if isn .f32 b then qnan .f64 else FloatKind.f64.encode (FloatKind.f32.decode b)
def wideV (b : Nat) (w : World) : Nat :=
  if isn .f32 b then Question.cut (.nanConv .f64 b) (w.tape w.drawn (.nanConv .f64 b)) else FloatKind.f64.encode (FloatKind.f32.decode b)
def wideN (b : Nat) : Nat := if isn .f32 b then 1 else 0

theorem read_word_inf (f : Ieee.Format) (neg : Bool) {rung : Nat} (h : rung < f.infRung) : (f.read (f.word neg rung)).isInfinity = false := by
  have hs := f.infRung_lt
  have hm : f.word neg rung % f.signWeight = rung := by
    unfold Ieee.Format.word; split
    · rw [Nat.add_mod_left, Nat.mod_eq_of_lt (by omega)]
    · rw [Nat.mod_eq_of_lt (by omega)]
  unfold Ieee.Format.read
  simp only [hm]
  split
  · rfl
  · first | rfl | (rw [if_pos h]; rfl)

theorem read_mag (f : Ieee.Format) (b : Nat) {s : Bool} {m : Nat} {e : Int} (h : f.read b = .number s m e) : m < 2 * f.binade ∧ f.leastPlace ≤ e ∧ e ≤ f.leastPlace + ((f.infRung / f.binade - 1 : Nat) : Int) := by
  have hp : 0 < f.binade := Nat.two_pow_pos _
  unfold Ieee.Format.read at h
  simp only [] at h
  split at h
  · rename_i hr
    simp only [Ieee.Datum.number.injEq] at h
    obtain ⟨-, rfl, rfl⟩ := h
    exact ⟨by omega, by omega, by omega⟩
  · split at h
    · rename_i hr
      simp only [Ieee.Datum.number.injEq] at h
      obtain ⟨-, rfl, rfl⟩ := h
      have := Nat.mod_lt (b % f.signWeight) hp
      have h2 := Nat.div_le_div_right (c := f.binade) (Nat.le_of_lt hr)
      exact ⟨by omega, by omega, by omega⟩
    · split at h <;> cases h

theorem cut_zero (way : Ieee.Toward) (neg : Bool) (n : Nat) : way.cut neg n 0 = n := by
  unfold Ieee.Toward.cut
  simp only [Nat.zero_min, Nat.shiftLeft_zero, Nat.div_one, Nat.mod_one]
  cases way <;> simp

/-- A number with few digits, not too far up: it is written without a round. -/
theorem nearest_exact (f : Ieee.Format) (neg : Bool) (mag : Nat) (place : Int) (h0 : mag ≠ 0) (h2 : f.leastPlace ≤ place)
    (h3 : place + mag.log2 - f.fractionBits ≤ place) :
    f.nearest neg mag place = f.word neg (min ((max (place + mag.log2 - f.fractionBits) f.leastPlace - f.leastPlace).toNat * f.binade + mag <<< (place - max (place + mag.log2 - f.fractionBits) f.leastPlace).toNat) f.infRung) := by
  unfold Ieee.Format.nearest
  rw [if_neg h0]
  simp only []
  have : (max (place + mag.log2 - f.fractionBits) f.leastPlace - place).toNat = 0 := by omega
  rw [this, cut_zero]

theorem shl_lt (m k : Nat) (hm : m.log2 ≤ 52) (h : k ≤ 52 - m.log2) : m <<< k < 2 ^ 53 := by
  rw [Nat.shiftLeft_eq]
  have e2 : 2 ^ k ≤ 2 ^ (52 - m.log2) := Nat.pow_le_pow_right (by omega) h
  have e3 : m < 2 ^ (m.log2 + 1) := Nat.lt_log2_self
  have e4 : 2 ^ (m.log2 + 1) * 2 ^ (52 - m.log2) = 2 ^ 53 := by
    rw [← Nat.pow_add]
    exact congrArg (fun x => 2 ^ x) (by omega)
  calc m * 2 ^ k ≤ m * 2 ^ (52 - m.log2) := Nat.mul_le_mul_left _ e2
    _ < 2 ^ (m.log2 + 1) * 2 ^ (52 - m.log2) := Nat.mul_lt_mul_of_pos_right e3 (Nat.two_pow_pos _)
    _ = 2 ^ 53 := e4

theorem rung_lt (a b : Nat) (B R : Nat) (h : a ≤ 1202) (hb : b < 2 * B) (hr : 1204 * B ≤ R) : a * B + b < R := by
  have := Nat.mul_le_mul_right B h
  omega

theorem f64_binade : FloatKind.f64.format.binade = 2 ^ 52 := by decide +kernel
theorem f64_least : FloatKind.f64.format.leastPlace = -1074 := by decide +kernel
theorem f64_inf : FloatKind.f64.format.infRung = 2047 * 2 ^ 52 := by decide +kernel
theorem f64_frac : FloatKind.f64.format.fractionBits = 52 := rfl
theorem f32_binade : FloatKind.f32.format.binade = 2 ^ 23 := by decide +kernel
theorem f32_least : FloatKind.f32.format.leastPlace = -149 := by decide +kernel
theorem f32_inf : FloatKind.f32.format.infRung = 255 * 2 ^ 23 := by decide +kernel
theorem f32_frac : FloatKind.f32.format.fractionBits = 23 := rfl
theorem f32_binades : FloatKind.f32.format.infRung / FloatKind.f32.format.binade - 1 = 254 := by decide +kernel

theorem wide_args {m : Nat} {e : Int} (h1 : m.log2 ≤ 23) (h2 : -149 ≤ e) (h3 : e ≤ 105) :
    (e - max (e + (m.log2 : Int) - (52 : Nat)) (-1074)).toNat ≤ 52 - m.log2 ∧ (max (e + (m.log2 : Int) - (52 : Nat)) (-1074) - -1074).toNat ≤ 1202 := by
  omega

theorem log_le (m : Nat) (h0 : m ≠ 0) (h : m < 2 * 2 ^ 23) : m.log2 ≤ 23 := by
  have := (Nat.log2_lt h0 (k := 24)).2 (by omega)
  omega

theorem wide_fin {b : Nat} {s : Bool} {m : Nat} {e : Int} (h : FloatKind.f32.decode b = .number s m e) : (FloatKind.f64.decode (FloatKind.f64.encode (.number s m e))).isInfinity = false := by
  obtain ⟨h1, h2, h3⟩ := read_mag FloatKind.f32.format b h
  rw [f32_binade] at h1; rw [f32_least] at h2; rw [f32_least, f32_binades] at h3
  unfold FloatKind.decode FloatKind.encode
  show (FloatKind.f64.format.read (FloatKind.f64.format.nearest s m e)).isInfinity = false
  generalize hF : FloatKind.f64.format = F
  have g1 := f64_binade
  have g2 := f64_least
  have g3 := f64_inf
  have g4 := f64_frac
  rw [hF] at g1 g2 g3 g4
  by_cases h0 : m = 0
  · subst h0
    unfold Ieee.Format.nearest
    rw [if_pos rfl]
    exact read_word_inf _ _ (by rw [g3]; decide)
  · have hl := log_le m h0 h1
    obtain ⟨w1, w2⟩ := wide_args hl h2 (by omega)
    rw [nearest_exact _ _ _ _ h0 (by rw [g2]; omega) (by rw [g4]; omega)]
    refine read_word_inf _ _ ?_
    rw [g1, g2, g3, g4]
    exact Nat.lt_of_le_of_lt (Nat.min_le_left ..) (rung_lt _ _ _ _ w2 (shl_lt m _ (by omega) w1) (by decide))

section
variable {P : Program} (w : World)
theorem run_wide (src dst : TypeId) (b : Nat) (hs : (P.underlying src).isSome = true) (hd : P.underlying dst = some (.float .f64)) :
    (convert src dst (.float .f32 b)).run P w = .ok (.float .f64 (wideV b w)) (w.drewN (wideN b)) := by
  obtain ⟨u, hs'⟩ := Option.isSome_iff_exists.1 hs
  unfold wideV wideN
  cases hd' : FloatKind.f32.decode b with
  | nan s f =>
    have hn : isn .f32 b = true := isn_iff.2 ⟨s, f, hd'⟩
    cases u <;> simp [convert, run_underlying hs', run_underlying hd, Conv.floatToFloat, hd', hn, Question.forced, World.drew_is_drewN]
  | infinity s =>
    have hn : isn .f32 b = false := by unfold isn; rw [hd']; rfl
    cases u <;> simp [convert, run_underlying hs', run_underlying hd, Conv.floatToFloat, hd', hn, World.drewN_zero]
  | number s m e =>
    have hn : isn .f32 b = false := by unfold isn; rw [hd']; rfl
    have hf := wide_fin hd'
    cases u <;> simp [convert, run_underlying hs', run_underlying hd, Conv.floatToFloat, hd', hn, World.drewN_zero, hf]
end

theorem canon_wideV (b : Nat) (w : World) : canon .f64 (wideV b w) = canon .f64 (wide (canon .f32 b)) := by
  unfold wideV wide
  rw [isn_canon]
  split
  · rw [canon_of_nan (cut_nanConv ..), canon_of_nan (isn_qnan .f64)]
  · rename_i h
    rw [canon_of_not (k := .f32) (by simpa using h)]

/-- the float32 next to a float64 -/
def narrow (b : Nat) : Nat := if isn .f64 b then qnan .f32 else FloatKind.f32.encode (FloatKind.f64.decode b)
/-- a number that float32 has not: too great -/
def over (b : Nat) : Bool := match FloatKind.f64.decode b with
  | .number s m e => (FloatKind.f32.decode (FloatKind.f32.encode (.number s m e))).isInfinity
  | _ => false
def narrowV (b : Nat) (w : World) : Nat :=
  if isn .f64 b then Question.cut (.nanConv .f32 b) (w.tape w.drawn (.nanConv .f32 b)) else
  if over b then Question.cut (.floatToFloat b) (w.tape w.drawn (.floatToFloat b)) else FloatKind.f32.encode (FloatKind.f64.decode b)
def narrowN (b : Nat) : Nat := if isn .f64 b || over b then 1 else 0

section
variable {P : Program} (w : World)
theorem run_narrow (src dst : TypeId) (b : Nat) (hs : (P.underlying src).isSome = true) (hd : P.underlying dst = some (.float .f32)) :
    (convert src dst (.float .f64 b)).run P w = .ok (.float .f32 (narrowV b w)) (w.drewN (narrowN b)) := by
  obtain ⟨u, hs'⟩ := Option.isSome_iff_exists.1 hs
  unfold narrowV narrowN over
  cases hd' : FloatKind.f64.decode b with
  | nan s f =>
    have hn : isn .f64 b = true := isn_iff.2 ⟨s, f, hd'⟩
    cases u <;> simp [convert, run_underlying hs', run_underlying hd, Conv.floatToFloat, hd', hn, Question.forced, World.drew_is_drewN]
  | infinity s =>
    have hn : isn .f64 b = false := by unfold isn; rw [hd']; rfl
    cases u <;> simp [convert, run_underlying hs', run_underlying hd, Conv.floatToFloat, hd', hn, World.drewN_zero]
  | number s m e =>
    have hn : isn .f64 b = false := by unfold isn; rw [hd']; rfl
    cases ho : (FloatKind.f32.decode (FloatKind.f32.encode (.number s m e))).isInfinity <;>
    cases u <;> simp [convert, run_underlying hs', run_underlying hd, Conv.floatToFloat, hd', hn, ho, World.drewN_zero, Question.forced, World.drew_is_drewN]
theorem run_same_f32 (src dst : TypeId) (b : Nat) (hs : (P.underlying src).isSome = true) (hd : P.underlying dst = some (.float .f32)) :
    (convert src dst (.float .f32 b)).run P w = .ok (.float .f32 b) w := run_convert_float_float w src dst .f32 .f32 b b hs hd rfl
theorem run_same_f64 (src dst : TypeId) (b : Nat) (hs : (P.underlying src).isSome = true) (hd : P.underlying dst = some (.float .f64)) :
    (convert src dst (.float .f64 b)).run P w = .ok (.float .f64 b) w := run_convert_float_float w src dst .f64 .f64 b b hs hd rfl
end

theorem over_canon (b : Nat) : over (canon .f64 b) = over b := by
  cases h : isn .f64 b
  · rw [canon_of_not h]
  · rw [canon_of_nan h]
    obtain ⟨s, f, e⟩ := isn_iff.1 h
    have e' : FloatKind.f64.decode b = .nan s f := e
    have e2 : over (qnan .f64) = false := by decide +kernel
    rw [e2]; unfold over; rw [e']

theorem canon_narrowV (b : Nat) (w : World) (ho : over (canon .f64 b) = false) : canon .f32 (narrowV b w) = canon .f32 (narrow (canon .f64 b)) := by
  rw [over_canon] at ho
  unfold narrowV narrow
  rw [isn_canon, ho]
  split
  · rw [canon_of_nan (cut_nanConv ..), canon_of_nan (isn_qnan .f32)]
  · rename_i h
    rw [canon_of_not (k := .f64) (by simpa using h)]
    simp

/-! ## what is no not-a-number, and what fits -/

theorem read_word_nan (f : Ieee.Format) (neg : Bool) {rung : Nat} (h : rung ≤ f.infRung) : (f.read (f.word neg rung)).isNaN = false := by
  have hs := f.infRung_lt
  have hm : f.word neg rung % f.signWeight = rung := by
    unfold Ieee.Format.word; split
    · rw [Nat.add_mod_left, Nat.mod_eq_of_lt (by omega)]
    · rw [Nat.mod_eq_of_lt (by omega)]
  unfold Ieee.Format.read
  simp only [hm]
  split
  · rfl
  · split
    · rfl
    · rw [if_pos (by omega)]; rfl

theorem write_not_nan (f : Ieee.Format) {d : Ieee.Datum} (h : d.isNaN = false) : (f.read (f.write d)).isNaN = false := by
  cases d with
  | number s m e =>
    show (f.read (f.nearest s m e)).isNaN = false
    unfold Ieee.Format.nearest
    split
    · exact read_word_nan f _ (Nat.zero_le _)
    · exact read_word_nan f _ (Nat.min_le_right ..)
  | infinity s => exact read_word_nan f _ (Nat.le_refl _)
  | nan s f => cases h

theorem isn_encode {k : FloatKind} {d : Ieee.Datum} (h : d.isNaN = false) : isn k (k.encode d) = false := write_not_nan k.format h

theorem isn_wideV (b : Nat) (w : World) : isn .f64 (wideV b w) = isn .f32 b := by
  unfold wideV
  split
  · rename_i h; rw [cut_nanConv, h]
  · rename_i h
    have h' : isn .f32 b = false := by simpa using h
    rw [h']; exact isn_encode h'

theorem isn_wide (b : Nat) : isn .f64 (wide b) = isn .f32 b := by
  unfold wide
  split
  · rename_i h; rw [isn_qnan, h]
  · rename_i h
    have h' : isn .f32 b = false := by simpa using h
    rw [h']; exact isn_encode h'

/-- one more than the greatest word -/
def words : FloatKind → Nat
  | .f32 => 4294967296
  | .f64 => 18446744073709551616
theorem words_eq (k : FloatKind) : 2 ^ k.format.width = words k := by cases k <;> decide +kernel
theorem encode_lt (k : FloatKind) (d : Ieee.Datum) : k.encode d < words k := by rw [← words_eq]; exact k.format.write_lt d
theorem qnan_lt (k : FloatKind) : qnan k < words k := by cases k <;> decide +kernel
theorem canon_lt {k : FloatKind} {b : Nat} (h : b < words k) : canon k b < words k := by
  unfold canon; split
  · exact qnan_lt k
  · exact h
theorem fop_lt (op : BinOp) (k : FloatKind) (x y : Nat) : fop op k x y < words k := by
  refine canon_lt ?_
  cases h : floatBits op k x y with
  | none => exact qnan_lt k
  | some r =>
    rw [Option.getD_some, ← words_eq]
    unfold floatBits at h
    split at h
    · exact k.format.add_lt h
    · exact k.format.sub_lt h
    · exact k.format.mul_lt h
    · exact k.format.div_lt h
    · cases h
theorem wide_lt (b : Nat) : wide b < words .f64 := by
  unfold wide; split
  · exact qnan_lt .f64
  · exact encode_lt _ _
theorem narrow_lt (b : Nat) : narrow b < words .f32 := by
  unfold narrow; split
  · exact qnan_lt .f32
  · exact encode_lt _ _

theorem order_fopV_l (op : BinOp) (k : FloatKind) (x y z : Nat) (w : World) : k.format.order (fopV op k x y w) z = k.format.order (fop op k (canon k x) (canon k y)) (canon k z) := by
  rw [← canon_fopV op k x y w, order_canon]
theorem order_fopV_r (op : BinOp) (k : FloatKind) (x y z : Nat) (w : World) : k.format.order z (fopV op k x y w) = k.format.order (canon k z) (fop op k (canon k x) (canon k y)) := by
  rw [← canon_fopV op k x y w, order_canon]

theorem isn_of_canon {k : FloatKind} {a b : Nat} (h : canon k a = canon k b) : isn k a = isn k b := by
  rw [← isn_canon k a, h, isn_canon]

/-- What the walk leaves of a world that is only drawn from. -/
theorem grown_drewN (w : World) (n : Nat) : Grown w (w.drewN n) := by
  induction n with
  | zero => exact Grown.refl _
  | succ n ih => exact ih.drew

theorem lt_of_wf {k : FloatKind} {b : Nat} (h : (Lit.float k b).wf = true) : b < words k := by
  cases k <;> simpa [Lit.wf, words] using h

/-! ## finite numbers -/

def fin (k : FloatKind) (b : Nat) : Bool := match k.decode b with
  | .number .. => true
  | _ => false

theorem fin_canon (k : FloatKind) (b : Nat) : fin k (canon k b) = fin k b := by
  cases h : isn k b
  · rw [canon_of_not h]
  · rw [canon_of_nan h]
    obtain ⟨s, f, e⟩ := isn_iff.1 h
    have e' : k.decode b = .nan s f := e
    have e2 : fin k (qnan k) = false := by cases k <;> decide +kernel
    rw [e2]; unfold fin; rw [e']

theorem fin_of_nan {k : FloatKind} {b : Nat} (h : isn k b = true) : fin k b = false := by
  obtain ⟨s, f, e⟩ := isn_iff.1 h
  have e' : k.decode b = .nan s f := e
  unfold fin; rw [e']

theorem fin_iff (k : FloatKind) (b : Nat) : fin k b = (!(k.decode b).isNaN && !(k.decode b).isInfinity) := by
  unfold fin; cases k.decode b <;> rfl

theorem fin_wideV (b : Nat) (w : World) : fin .f64 (wideV b w) = fin .f32 b := by
  cases h : isn .f32 b
  · have e : wideV b w = FloatKind.f64.encode (FloatKind.f32.decode b) := by unfold wideV; simp [h]
    rw [e]
    cases hd : FloatKind.f32.decode b with
    | nan s f => exact absurd (isn_iff.2 ⟨s, f, hd⟩) (by simp [h])
    | infinity s =>
      have : fin .f32 b = false := by unfold fin; rw [hd]
      rw [this]; cases s <;> decide +kernel
    | number s m e =>
      have : fin .f32 b = true := by unfold fin; rw [hd]
      rw [this, fin_iff, wide_fin hd]
      have := isn_encode (k := .f64) (d := .number s m e) rfl
      unfold isn at this; rw [this]; rfl
  · rw [fin_of_nan (by rw [isn_wideV, h]), fin_of_nan h]

theorem sub_self_fin {k : FloatKind} {b : Nat} : floatBits .sub k b b = if fin k b then some 0 else none := by
  unfold floatBits fin FloatKind.decode
  simp only [Ieee.Format.sub]
  cases h : k.format.read b with
  | nan s f => rfl
  | infinity s => cases s <;> rfl
  | number s m e =>
    simp only [Ieee.Datum.opposite, Ieee.Datum.sum, Int.min_self, Int.sub_self, Option.map_some, if_true]
    have : Ieee.signed s m (0 : Int).toNat + Ieee.signed (!s) m (0 : Int).toNat = 0 := by
      unfold Ieee.signed; cases s <;> simp <;> omega
    rw [this]
    cases k <;> cases s <;> rfl

def finOf (b : Nat) : Bool := fin .f32 b

theorem max_read : FloatKind.f64.format.read 9218868437227405311 = .number false 9007199254740991 971 := by decide +kernel
theorem min_read : FloatKind.f64.format.read 18442240474082181119 = .number true 9007199254740991 971 := by decide +kernel

theorem read_place (f : Ieee.Format) (b : Nat) {s : Bool} {m : Nat} {e : Int} (h : f.read b = .number s m e) : e ≤ f.leastPlace + ((2 ^ f.exponentBits - 3 : Nat) : Int) ∨ 2 ^ f.exponentBits < 3 := by
  have hp : 0 < f.binade := Nat.two_pow_pos _
  unfold Ieee.Format.read at h
  simp only [] at h
  split at h
  · rename_i hr
    simp only [Ieee.Datum.number.injEq] at h
    obtain ⟨-, rfl, rfl⟩ := h
    exact .inl (by omega)
  · split at h
    · rename_i hr
      simp only [Ieee.Datum.number.injEq] at h
      obtain ⟨-, rfl, rfl⟩ := h
      have h2 : b % f.signWeight / f.binade < 2 ^ f.exponentBits - 1 := (Nat.div_lt_iff_lt_mul hp).2 hr
      by_cases h3 : 2 ^ f.exponentBits < 3
      · exact .inr h3
      · exact .inl (by omega)
    · split at h <;> cases h

theorem f64_number {b : Nat} {s : Bool} {m : Nat} {e : Int} (h : FloatKind.f64.decode b = .number s m e) : m ≤ 9007199254740991 ∧ -1074 ≤ e ∧ e ≤ 971 := by
  obtain ⟨h1, h2, -⟩ := read_mag FloatKind.f64.format b h
  have h3 := read_place FloatKind.f64.format b h
  rw [f64_binade] at h1
  rw [f64_least] at h2 h3
  have e1 : FloatKind.f64.format.exponentBits = 11 := rfl
  rw [e1] at h3
  exact ⟨by omega, by omega, by omega⟩
theorem f32_number {b : Nat} {s : Bool} {m : Nat} {e : Int} (h : FloatKind.f32.decode b = .number s m e) : m ≤ 16777215 ∧ -149 ≤ e ∧ e ≤ 104 := by
  obtain ⟨h1, h2, -⟩ := read_mag FloatKind.f32.format b h
  have h3 := read_place FloatKind.f32.format b h
  rw [f32_binade] at h1
  rw [f32_least] at h2 h3
  have e1 : FloatKind.f32.format.exponentBits = 8 := rfl
  rw [e1] at h3
  exact ⟨by omega, by omega, by omega⟩

/-- the number without its sign -/
def fabs (b : Nat) : Nat := b % 9223372036854775808
def positive : Ieee.Datum → Ieee.Datum
  | .number _ m e => .number false m e
  | .infinity _ => .infinity false
  | .nan _ f => .nan false f
theorem f64_sign : FloatKind.f64.format.signWeight = 9223372036854775808 := by decide +kernel
theorem f32_sign : FloatKind.f32.format.signWeight = 2147483648 := by decide +kernel
theorem read_fabs (b : Nat) : FloatKind.f64.decode (fabs b) = positive (FloatKind.f64.decode b) := by
  unfold FloatKind.decode fabs Ieee.Format.read
  rw [f64_sign]
  have e1 : b % 9223372036854775808 % 9223372036854775808 = b % 9223372036854775808 := Nat.mod_mod _ _
  have e2 : b % 9223372036854775808 / 9223372036854775808 = 0 := Nat.div_eq_of_lt (Nat.mod_lt _ (by decide))
  simp only [e1, e2]
  split
  · rfl
  · split
    · rfl
    · split <;> rfl

theorem isn_fabs (b : Nat) : isn .f64 (fabs b) = isn .f64 b := by
  unfold isn; rw [read_fabs]; cases FloatKind.f64.decode b <;> rfl

/-- the absolute value of one not-a-number is another one -/
theorem canon_fabs (b : Nat) : canon .f64 (fabs (canon .f64 b)) = canon .f64 (fabs b) := by
  cases h : isn .f64 b
  · rw [canon_of_not h]
  · rw [canon_of_nan (b := fabs b) (by rw [isn_fabs, h]), canon_of_nan (by rw [isn_fabs, isn_canon, h])]

theorem signed_le (s : Bool) (m k : Nat) : Ieee.signed s m k ≤ (m <<< k : Nat) := by
  unfold Ieee.signed
  generalize m <<< k = n
  split <;> omega

/-- nothing finite is greater than the greatest number -/
theorem over_max (b : Nat) : (FloatKind.f64.format.order b 9218868437227405311 == some .gt) = match FloatKind.f64.decode b with
    | .infinity s => !s
    | _ => false := by
  unfold Ieee.Format.order
  rw [max_read]
  cases h : FloatKind.f64.decode b with
  | nan s f => have h' : FloatKind.f64.format.read b = .nan s f := h
               rw [h']; rfl
  | infinity s => have h' : FloatKind.f64.format.read b = .infinity s := h
                  rw [h']; cases s <;> rfl
  | number s m e =>
    have h' : FloatKind.f64.format.read b = .number s m e := h
    obtain ⟨h1, h2, h3⟩ := f64_number h
    rw [h']
    simp only [Ieee.Datum.order]
    have hm : min e 971 = e := by omega
    rw [hm]
    have a1 : Ieee.signed s m (e - e).toNat ≤ m := by
      have := signed_le s m (e - e).toNat
      simpa using this
    have a2 : (9007199254740991 : Int) ≤ Ieee.signed false 9007199254740991 (971 - e).toNat := by
      show (9007199254740991 : Int) ≤ ((9007199254740991 <<< (971 - e).toNat : Nat) : Int)
      rw [Nat.shiftLeft_eq]
      have := Nat.mul_le_mul_left 9007199254740991 (Nat.one_le_two_pow (n := (971 - e).toNat))
      omega
    have a3 : ¬ Ieee.signed false 9007199254740991 (971 - e).toNat < Ieee.signed s m (e - e).toNat := by omega
    have a4 : compare (Ieee.signed s m (e - e).toNat) (Ieee.signed false 9007199254740991 (971 - e).toNat) ≠ .gt := by
      intro hc
      exact a3 (Int.compare_eq_gt.1 hc)
    simpa using a4

def infinite (b : Nat) : Bool := (FloatKind.f64.decode b).isInfinity
theorem infinite_iff (b : Nat) : (FloatKind.f64.format.order (fabs b) 9218868437227405311 == some .gt) = infinite b := by
  rw [over_max, read_fabs]; unfold infinite; cases FloatKind.f64.decode b <;> rfl
theorem fin_infinite (b : Nat) : (!isn .f64 b && !infinite b) = fin .f64 b := by
  rw [fin_iff]; rfl

theorem bits_fabs (b : Nat) (hb : b < 18446744073709551616) : (bits .andNot .u64 (b : Int) 9223372036854775808).toNat = fabs b := by
  have h1 : (BitVec.ofInt 64 (b : Int)).toNat = b := by simp; omega
  have h2 : (~~~(BitVec.ofInt 64 9223372036854775808)).toNat = 2 ^ 63 - 1 := by decide +kernel
  have h3 : ((BitVec.ofInt 64 (b : Int)) &&& ~~~(BitVec.ofInt 64 9223372036854775808)).toNat = fabs b := by
    rw [BitVec.toNat_and, h1, h2, Nat.and_two_pow_sub_one_eq_mod]; rfl
  have h4 : bits .andNot .u64 (b : Int) 9223372036854775808 = IntKind.u64.wrap (((BitVec.ofInt 64 (b : Int)) &&& ~~~(BitVec.ofInt 64 9223372036854775808)).toNat : Int) := rfl
  have h5 : fabs b < 9223372036854775808 := Nat.mod_lt _ (by decide)
  rw [h4, h3, IntKind.wrap_u64]
  omega

theorem wideV_lt (b : Nat) (w : World) : wideV b w < 18446744073709551616 := by
  unfold wideV; split
  · have : ∀ t, Question.cut (.nanConv .f64 b) t < 18446744073709551616 := by
      intro t
      show (t % 2) * 2 ^ 63 + 0x7ff0000000000000 + 1 + (t / 2) % (2 ^ 52 - 1) < _
      have h1 : t % 2 < 2 := Nat.mod_lt _ (by decide)
      have h2 : (t / 2) % (2 ^ 52 - 1) < 2 ^ 52 - 1 := Nat.mod_lt _ (by decide)
      omega
    exact this _
  · exact encode_lt .f64 _

theorem sub_self_zero (b : Nat) (w : World) : (FloatKind.f32.format.order (fopV .sub .f32 b b w) 0 == some .eq) = fin .f32 b := by
  unfold fopV
  rw [sub_self_fin]
  cases h : fin .f32 b
  · simp only [Bool.false_eq_true, if_false, Option.getD_none]
    rw [order_nan_left (cut_nanBits ..)]; rfl
  · simp only [if_true, Option.getD_some]
    decide +kernel

theorem ret_eqNat (a b : Nat) : Ending.returned (.bool ((a : Int) == (b : Int))) = .returned (.bool (decide (a = b))) := by
  by_cases h : a = b
  · subst h; simp
  · have : ((a : Int) == (b : Int)) = false := by rw [beq_eq_false_iff_ne]; omega
    rw [this, decide_eq_false h]

end Go.Proofs.Ytpmjikchlofebaa
