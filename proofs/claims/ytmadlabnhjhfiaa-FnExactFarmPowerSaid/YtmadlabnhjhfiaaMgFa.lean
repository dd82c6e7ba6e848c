/- PowerInFarm, FarmPower, FarmShare: both sides. No statement is proved here. -/
import Derived.Test.YtmadlabnhjhfiaaMgSp
import Derived.Test.YtmadlabnhjhfiaaBinM
import Derived.Deep.Cut
import Derived.Deep.QuietTactic
import Derived.BigQuiet
import Derived.Test.YtmadlabnhjhfiaaRose
import Derived.Test.YtmadlabnhjhfiaaApp
import Derived.Test.YtmadlabnhjhfiaaInv5
import Derived.Test.YtmadlabnhjhfiaaInv4
import Derived.RegionTactic
import Derived.BigRegion
namespace Go.Proofs.Ytmadlabnhjhfiaa
open Go Go.RowKit
theorem losV_le {fx fy : List Nat} {fr fd fs x y c s : Nat} (h : LosOk fx fy fr fd fs x y c s) : ∃ m e, FloatKind.f32.decode (losV fx fy fr fd fs x y c s) = .number false m e ∧ m * 2 ^ (e - min (-23) e).toNat ≤ 8388608 * 2 ^ (-23 - min (-23) e).toNat := by
  unfold losV
  cases hg : gtr32 (losR fx fy fr fd fs x y c s) 1065353216
  · rw [if_neg (by decide)]
    obtain ⟨m, e, hd, -⟩ := h.root
    refine ⟨m, e, hd, ?_⟩
    unfold gtr32 at hg
    rw [order_numbers hd one_decode, cmp_gt] at hg
    simp only [Ieee.signed, Bool.false_eq_true, if_false, Nat.shiftLeft_eq] at hg
    have hg := of_decide_eq_false hg
    rw [Int.min_comm]
    omega
  · rw [if_pos rfl]
    exact ⟨8388608, -23, one_decode, Nat.le_refl _⟩
/-- what is left of 1 is not below 0 -/
theorem less_up {fx fy : List Nat} {fr fd fs x y c s : Nat} (h : LosOk fx fy fr fd fs x y c s) : upD (FloatKind.f32.decode (fop .sub .f32 1065353216 (losV fx fy fr fd fs x y c s))) := by
  obtain ⟨m, e, hd, hle⟩ := losV_le h
  have e1 : ∃ v b, fop .sub .f32 1065353216 (losV fx fy fr fd fs x y c s) = FloatKind.f32.format.write (.number false v b) := by
    unfold fop floatBits Ieee.Format.sub
    simp only []
    rw [show FloatKind.f32.format.read 1065353216 = .number false 8388608 (-23) from one_decode, show FloatKind.f32.format.read (losV fx fy fr fd fs x y c s) = .number false m e from hd]
    simp only [Ieee.Datum.opposite, Ieee.Datum.sum, Ieee.signed, Bool.not_false, Bool.false_eq_true, if_false, if_true, Nat.shiftLeft_eq, Option.map_some, Option.getD_some]
    generalize m * 2 ^ (e - min (-23) e).toNat = B at hle ⊢
    generalize 8388608 * 2 ^ (-23 - min (-23) e).toNat = A at hle ⊢
    have hs : (if (A : Int) + -(B : Int) = 0 then (false && true) else decide ((A : Int) + -(B : Int) < 0)) = false := by
      split
      · rfl
      · exact decide_eq_false (by omega)
    rw [hs]
    exact ⟨_, _, canon_of_not (write_not_nan FloatKind.f32.format rfl)⟩
  obtain ⟨v, b, e1⟩ := e1
  rw [e1]
  exact upD_write _ (.inl rfl) up32
theorem mul_upD {x y : Nat} (hx : amount x = true) (hy : upD (FloatKind.f32.decode y)) (hf : fin .f32 y = true) : upD (FloatKind.f32.decode (fop .mul .f32 x y)) := by
  obtain ⟨s, m, i, dx, hs⟩ := amount_up hx
  obtain ⟨t, n, j, dy⟩ := fin_number hf
  rw [dy] at hy
  have ht : t = false ∨ n = 0 := hy
  have e1 : fop .mul .f32 x y = FloatKind.f32.format.write (.number (s ^^ t) (m * n) (i + j)) := by
    unfold fop floatBits Ieee.Format.mul
    simp only []
    rw [dx, show FloatKind.f32.format.read y = .number t n j from dy]
    simp only [Ieee.Datum.product, Option.map_some, Option.getD_some]
    exact canon_of_not (write_not_nan FloatKind.f32.format rfl)
  rw [e1]
  refine upD_write _ ?_ up32
  rcases hs with rfl | rfl
  · rcases ht with rfl | rfl
    · exact .inl rfl
    · exact .inr (Nat.mul_zero _)
  · exact .inr (Nat.zero_mul _)
theorem up_amount {x : Nat} (hu : upD (FloatKind.f32.decode x)) (hf : fin .f32 x = true) : amount x = true := by
  obtain ⟨s, m, e, hd⟩ := fin_number hf
  rw [hd] at hu
  have hs : s = false ∨ m = 0 := hu
  unfold amount geq32
  rw [hf, order_numbers hd zero_decode, cmp_gt, cmp_eq]
  simp only [Ieee.signed, Bool.false_eq_true, if_false, Nat.shiftLeft_eq, Nat.zero_mul, Bool.true_and, Bool.or_eq_true, decide_eq_true_eq]
  rcases hs with rfl | rfl
  · simp only [Bool.false_eq_true, if_false]
    generalize m * 2 ^ (e - min e (-149)).toNat = A
    omega
  · simp
/-- a speed that is finite is an amount -/
theorem sfw_amount {fx fy : List Nat} {fr fd fs t sp k : Nat} (hv : frmV fx fy fr fd fs = true) (ht : fin .f32 t = true) (hs : amount sp = true) (hk : k < fx.length) (hf : fin .f32 (sfwQ fx fy fr fd fs t sp k) = true) : amount (sfwQ fx fy fr fd fs t sp k) = true := by
  have hL := losOk_own hv ht hk
  exact up_amount (mul_upD hs (less_up hL) (less_sure hL).2) hf
def pifA (fr : Nat) : Nat := fop .mul .f32 (fop .mul .f32 (canon .f32 1078530011) (canon .f32 fr)) (canon .f32 fr)
def pifT (fd : Nat) : Nat := fop .mul .f32 (fop .mul .f32 (fop .mul .f32 (canon .f32 1082130432) (canon .f32 fd)) (fop .sub .f32 (canon .f32 1065353216) (canon .f32 fd))) (fop .sub .f32 (canon .f32 1065353216) (canon .f32 fd))
def pifQ (dn x fr fd : Nat) : Nat := fop .mul .f32 (fop .mul .f32 (powV dn x) (pifA fr)) (pifT fd)
def pifL (fx fy : List Nat) (fr fd fs t sp dn : Nat) : List Nat := (List.range fx.length).map fun k => pifQ dn (sfwQ fx fy fr fd fs t sp k) fr fd
theorem pifL_length (fx fy : List Nat) (fr fd fs t sp dn : Nat) : (pifL fx fy fr fd fs t sp dn).length = fx.length := by simp [pifL]
theorem pifL_at {fx fy : List Nat} {fr fd fs t sp dn k : Nat} (h : k < fx.length) : (pifL fx fy fr fd fs t sp dn).getD k 0 = pifQ dn (sfwQ fx fy fr fd fs t sp k) fr fd := by simp [pifL, List.getD, h]
theorem sumK_parts {xs : List Nat} : ∀ n, fin .f32 (sumK xs n) = true → ∀ k, k < n → fin .f32 (xs.getD k 0) = true := by
  intro n
  induction n with
  | zero => intro _ k hk; omega
  | succ n ih =>
    intro h k hk
    simp only [sumK] at h
    obtain ⟨h1, h2⟩ := sum_fin h
    by_cases e : k = n
    · subst e; rw [fin_canon] at h2; exact h2
    · exact ih h1 k (by omega)
theorem pifQ_parts {dn x fr fd : Nat} (h : fin .f32 (pifQ dn x fr fd) = true) : fin .f32 (powV dn x) = true ∧ fin .f32 x = true := by
  have h1 : fin .f32 (powV dn x) = true := by
    cases h2 : fin .f32 (powV dn x)
    · unfold pifQ at h
      rw [mulL_not_fin (mulL_not_fin h2)] at h
      cases h
    · rfl
  refine ⟨h1, ?_⟩
  cases h2 : fin .f32 x
  · unfold powV at h1
    rw [mulR_not_fin (by rw [fin_canon]; exact h2)] at h1
    cases h1
  · rfl
/-- where the sum is finite, every power is one -/
theorem pif_pow {fx fy : List Nat} {fr fd fs t sp dn : Nat} (hv : frmV fx fy fr fd fs = true) (ht : fin .f32 t = true) (hs : amount sp = true) (hd : amount dn = true) (hf : fin .f32 (sumK (pifL fx fy fr fd fs t sp dn) fx.length) = true) : ∀ k, k < fx.length → powO dn (sfwQ fx fy fr fd fs t sp k) = true := by
  intro k hk
  have h1 := sumK_parts _ hf k hk
  rw [pifL_at hk] at h1
  obtain ⟨h2, h3⟩ := pifQ_parts h1
  unfold powO
  rw [hd, sfw_amount hv ht hs hk h3, h2]
  rfl
end Go.Proofs.Ytmadlabnhjhfiaa
namespace Go.Proofs.Ytmadlabnhjhfiaa
open Go Go.RowKit
theorem i_pifAt (dn da dt x B1 B2 B3 : Nat) (w : World) (l1 : w.cell? ⟨B1, 0, none⟩ = some (.float .f32 dn)) (l2 : w.cell? ⟨B2, 0, none⟩ = some (.float .f32 da)) (l3 : w.cell? ⟨B3, 0, none⟩ = some (.float .f32 dt)) :
    Calls Try.prog 204 #[.float .f32 x, .pointer (some ⟨B1, 0, none⟩), .pointer (some ⟨B2, 0, none⟩), .pointer (some ⟨B3, 0, none⟩)] w fun e w' => ∃ r, e = .returned (.tuple #[.float .f32 r, .bool (powO dn x)]) ∧ canon .f32 r = fop .mul .f32 (fop .mul .f32 (powR dn x) (canon .f32 da)) (canon .f32 dt) ∧ Below w.heap.size w w' := by
  have L2 := Lib.hid l2
  have L3 := Lib.hid l3
  clear l2 l3
  go_enter Try.func204, Try.ntmps204
  go_wp2_with fail
  refine (i_AirPower dn x _).mono ?_
  rintro e w1 ⟨r, n, rfl, hr, hw⟩
  have HR := Lib.hid hr
  have b1 : Below w.heap.size w w1 := by rw [hw]; exact below_draws (Below.refl _ _) _
  have m2 : w1.cell? ⟨B2, 0, none⟩ = some (.float .f32 da) := by rw [hw]; exact L2.out
  have m3 : w1.cell? ⟨B3, 0, none⟩ = some (.float .f32 dt) := by rw [hw]; exact L3.out
  have B1' := Lib.hid b1
  clear hr hw b1 l1
  go_wp2_with fail
  refine (i_mulNumbers _ _ _).mono ?_
  rintro e w2 ⟨rfl, rfl⟩
  go_wp2
  go_ret2
  exact ⟨_, rfl, by rw [canon_fopV, canon_fopV, HR.out], by repeat (first | exact B1'.out | refine below_draws ?_ _)⟩
theorem i_sumOfPowers (A : Option Addr) (cap : Nat) (xs : List Nat) (ok : Bool) (w : World) (h : Fl w A xs) (hn : xs.length ≤ 256) :
    Calls Try.prog 119 #[.slice A xs.length cap, .bool ok] w fun e w' => ∃ r, e = .returned (.tuple #[.float .f32 r, .bool (ok && fin .f32 (sumK xs xs.length))]) ∧ canon .f32 r = (if ok then onlyN (sumK xs xs.length) else 0) ∧ Below w.heap.size w w' := by
  have HF := Lib.hid h; clear h
  cases ok
  · go_enter Try.func119, Try.ntmps119
    go_wp2
    go_ret2
    exact ⟨0, by simp, by decide +kernel, Below.refl _ _⟩
  · go_enter Try.func119, Try.ntmps119
    go_wp2_with fail
    refine (i_sumOf A cap xs _ HF.out hn).mono ?_
    rintro e w1 ⟨r, n, rfl, hr, hw⟩
    have HR := Lib.hid hr
    have B1' : Hid (Below w.heap.size w w1) := Lib.hid (by rw [hw]; exact below_draws (Below.refl _ _) _)
    clear hr hw
    go_wp2_with fail
    refine (i_onlyFiniteC r (sumK xs xs.length) _ HR.out).mono ?_
    rintro e w2 ⟨ro, no, rfl, hro, hw2⟩
    have HO := Lib.hid hro
    have HW2 := Lib.hid hw2
    clear hro hw2
    go_wp2
    go_ret2
    exact ⟨ro, rfl, HO.out, by rw [HW2.out]; exact below_draws B1'.out _⟩
set_option maxHeartbeats 4000000 in
set_option maxRecDepth 100000 in
theorem i_powersOf_pf (c0 c1 c2 : Value) (q : Nat → Nat) (p : Nat → Bool) (A : Option Addr) (cap : Nat) (xs : List Nat) (w : World) (h : Fl w A xs) (hn : xs.length ≤ 32)
    (hat : ∀ k, k < xs.length → ∀ wr, Below w.heap.size w wr → Calls Try.prog 204 #[.float .f32 (xs.getD k 0), c0, c1, c2] wr fun e w' => ∃ r, e = .returned (.tuple #[.float .f32 r, .bool (p k)]) ∧ canon .f32 r = q k ∧ Below wr.heap.size wr w') :
    Calls Try.prog 203 #[.slice A xs.length cap, .func (.func 204) #[] #[c0, c1, c2]] w fun e w' => ∃ (A' : Option Addr) (cap' g' : Nat) (ys : List Nat), e = .returned (.tuple #[.slice A' ys.length cap', .bool (alls p xs.length)]) ∧ OwnO w' w.heap.size A' g' ys ∧ (alls p xs.length = false → ys = []) ∧ (alls p xs.length = true → ys.length = xs.length ∧ ∀ k, k < xs.length → canon .f32 (ys.getD k 0) = q k) ∧ Below w.heap.size w w' := by
  have HA := Lib.hid hat; clear hat
  have HF := Lib.hid h; clear h
  obtain ⟨i0, hi, hz0, hz1, hz2⟩ := info_parts f32_info
  have hmk := run_make (P := Try.prog) w 32 22 i0 (.float .f32 0) (by kernel_rfl) hi hz0 .i64 .i64 0 xs.length (by omega) (by omega) (by rw [hz2]; omega) (by omega)
  rw [hz1] at hmk
  have hmk' : (Instr.makeSlice 32 (.int .i64 0) (.int .i64 xs.length)).run Try.prog w = .ok (.slice (some ⟨w.heap.size, 0, none⟩) 0 xs.length) (w.alloc (.cells (madeCells #[.float .f32 0] xs.length) 22)) := by
    rw [hmk]; simp [Value.cells]
  clear hmk
  have hst : Gr (w.alloc (.cells (madeCells #[.float .f32 0] xs.length) 22)) w.heap.size (.slice (some ⟨w.heap.size, 0, none⟩) 0 xs.length) [] := Gr.made _ _ _ _ (Nat.le_refl _) (by unfold maxLen; omega) (by simp [madeCells])
  have hb0 : Below w.heap.size w (w.alloc (.cells (madeCells #[.float .f32 0] xs.length) 22)) := (Below.refl _ _).alloc (Nat.le_refl _) _
  have HST := Lib.hid hst
  have HB0 := Lib.hid hb0
  clear hst hb0
  go_enter Try.func203, Try.ntmps203
  go_wp2
  clear hmk'
  go_loopw [6, 19] (fun v i wr => ∃ (k : Nat) (ys : List Nat), k ≤ xs.length ∧ i = .int .i64 k ∧ Hid (Gr wr w.heap.size v ys) ∧ Hid (ys.length = k) ∧ Hid (alls p k = true) ∧ Hid (∀ j, j < k → canon .f32 (ys.getD j 0) = q j) ∧ Hid (Below w.heap.size w wr)) (fun _ i _ => xs.length - (intOf i).toNat)
  case atStart => exact ⟨0, [], Nat.zero_le _, rfl, HST, rfl, rfl, Lib.hid (fun j hj => absurd hj (Nat.not_lt_zero j)), HB0⟩
  case round =>
    obtain ⟨k, ys, hk, rfl, HG, HL, HP, HQ, HBW⟩ := hrel
    by_cases hlt : k < xs.length
    · obtain ⟨b, off, rfl, hb, hc⟩ := HF.out.at_ hlt
      rw [← HBW.out.cell (p := ⟨b, off + k, none⟩) hb] at hc
      have hcall := Lib.hid (HA.out k hlt _ HBW.out)
      have HX : Hid (xs.getD k 0 = xs.getD k 0) := rfl
      obtain ⟨x, hx⟩ : ∃ x, x = xs.getD k 0 := ⟨_, rfl⟩
      rw [← hx] at hc hcall
      clear hx HX hb
      go_wp2_with fail
      refine hcall.out.mono ?_
      rintro e w1 ⟨r, rfl, hr, b1⟩
      have HG1 := Lib.hid (HG.out.below b1)
      have HB1 : Hid (Below w.heap.size w w1) := Lib.hid (below_of HBW.out HBW.out.size b1)
      have HR := Lib.hid hr
      clear hr b1 hc hcall
      cases pk : p k
      · have HN : Hid (alls p xs.length = false) := Lib.hid (alls_no (k := k + 1) (by simp only [alls, pk, Bool.and_false]) (by omega))
        clear pk
        go_wp2
        go_ret2
        exact ⟨none, 0, 0, [], by rw [HN.out]; rfl, .inl rfl, fun _ => rfl, fun h => absurd h (by rw [HN.out]; decide), HB1.out⟩
      · have HN : Hid (alls p (k + 1) = true) := Lib.hid (by simp only [alls, pk, HP.out, Bool.and_true])
        have hown := HG1.out
        clear pk
        unfold Gr at hown
        go_wp2_with (first
          | (at_builtin; refine wpList_append_own _ rfl _ _ 32 rfl w.heap.size 22 i0 (.float .f32 0) 1 4 Try.underlying32 hi hz0 hz1 hz2 rfl (by decide) _ _ _ rfl (hown.alloc _) ⟨_, 0, none⟩ 1 1 [.float .f32 r] rfl rfl ?c1 ?c2 ?c3 ?c4 ?c5 ?_)
          | fail)
        case c1 =>
          intro j u hj
          match j, hj with
          | 0, hj => simp at hj; subst hj; simp [Addr.add]
        case c2 => intro u hu; simp at hu; subst hu; rfl
        case c3 => have := HL.out; unfold maxLen; omega
        case c4 => have := HL.out; omega
        case c5 => have := HB1.out.size; simp; omega
        · intro v' w2 hown' hgrow _
          obtain ⟨g2, b2⟩ := Gr.next HG1.out HB1.out (Nat.le_refl _) hown' hgrow
          have HG2 := Lib.hid g2
          have HB2 := Lib.hid b2
          have HQ2 : Hid (∀ j, j < k + 1 → canon .f32 ((ys ++ [r]).getD j 0) = q j) := Lib.hid (fun j hj => by
            rw [getD_snoc _ _ _ (by rw [HL.out]; exact hj), HL.out]
            split
            · rename_i e; rw [HR.out, e]
            · exact HQ.out j (by omega))
          have HL2 : Hid ((ys ++ [r]).length = k + 1) := Lib.hid (by simp [HL.out])
          clear g2 b2 hown hown' hgrow
          go_wp2
          go_roundw
          case rel => exact ⟨k + 1, _, by omega, by go_num, HG2, HL2, HN, HQ2, HB2⟩
          case measure => simp [intOf]; omega
    · have hkk : k = xs.length := by omega
      subst hkk
      obtain ⟨A', cap', b', rfl, ho⟩ := HG.out.own
      have HO := Lib.hid ho
      clear ho
      go_wp2
      go_ret2
      exact ⟨A', cap', b', ys, by rw [HP.out]; rfl, HO.out, fun h => absurd h (by rw [HP.out]; decide), fun _ => ⟨HL.out, HQ.out⟩, HBW.out⟩
end Go.Proofs.Ytmadlabnhjhfiaa
namespace Go.Proofs.Ytmadlabnhjhfiaa
open Go Go.RowKit
def pifO (fx fy : List Nat) (fr fd fs t sp dn : Nat) : Bool := sfwO fx fy fr fd fs t sp && (amount dn && fin .f32 (sumK (pifL fx fy fr fd fs t sp dn) fx.length))
def pifR (fx fy : List Nat) (fr fd fs t sp dn : Nat) : Nat := if pifO fx fy fr fd fs t sp dn then sumK (pifL fx fy fr fd fs t sp dn) fx.length else 0
theorem pifO_no {fx fy : List Nat} {fr fd fs t sp dn : Nat} (h : sfwO fx fy fr fd fs t sp = false) : pifO fx fy fr fd fs t sp dn = false := by unfold pifO; rw [h]; rfl
theorem pifR_no {fx fy : List Nat} {fr fd fs t sp dn : Nat} (h : pifO fx fy fr fd fs t sp dn = false) : pifR fx fy fr fd fs t sp dn = 0 := by unfold pifR; rw [h]; rfl
theorem alls_getP {p : Nat → Bool} : ∀ n, alls p n = true → ∀ k, k < n → p k = true := by
  intro n
  induction n with
  | zero => intro _ k hk; omega
  | succ n ih =>
    intro h k hk
    simp only [alls, Bool.and_eq_true] at h
    by_cases e : k = n
    · subst e; exact h.2
    · exact ih h.1 k (by omega)
theorem alls_putP {p : Nat → Bool} : ∀ n, (∀ k, k < n → p k = true) → alls p n = true := by
  intro n
  induction n with
  | zero => intro _; rfl
  | succ n ih =>
    intro h
    simp only [alls, Bool.and_eq_true]
    exact ⟨ih (fun k hk => h k (by omega)), h n (by omega)⟩
theorem sumK_likeP {xs ys : List Nat} : ∀ n, (∀ k, k < n → canon .f32 (xs.getD k 0) = canon .f32 (ys.getD k 0)) → sumK xs n = sumK ys n := by
  intro n
  induction n with
  | zero => intro _; rfl
  | succ n ih => intro h; simp only [sumK, ih (fun k hk => h k (by omega)), h n (by omega)]
theorem canon_sumKP (xs : List Nat) : ∀ n, canon .f32 (sumK xs n) = sumK xs n
  | 0 => canon_zero
  | n + 1 => by simp only [sumK]; rw [canon_fop]
theorem sfwO_parts {fx fy : List Nat} {fr fd fs t sp : Nat} (h : sfwO fx fy fr fd fs t sp = true) : frmV fx fy fr fd fs = true ∧ fin .f32 t = true ∧ amount sp = true := by
  unfold sfwO at h
  simp only [Bool.and_eq_true] at h
  exact h
/-- whether there is a power: the parts are, and their sum is -/
theorem pif_alls {fx fy : List Nat} {fr fd fs t sp dn : Nat} (h : sfwO fx fy fr fd fs t sp = true) : pifO fx fy fr fd fs t sp dn = (alls (fun k => powO dn (sfwQ fx fy fr fd fs t sp k)) fx.length && fin .f32 (sumK (pifL fx fy fr fd fs t sp dn) fx.length)) := by
  obtain ⟨h1, h2, h3⟩ := sfwO_parts h
  unfold pifO
  rw [h, Bool.true_and]
  cases hf : fin .f32 (sumK (pifL fx fy fr fd fs t sp dn) fx.length)
  · simp
  · rw [Bool.and_true, Bool.and_true]
    cases hd : amount dn
    · cases ha : alls (fun k => powO dn (sfwQ fx fy fr fd fs t sp k)) fx.length
      · rfl
      · have := alls_getP _ ha 0 (by have := frmV_size h1; omega)
        unfold powO at this
        rw [hd] at this
        cases this
    · exact (alls_putP _ (pif_pow h1 h2 h3 hd hf)).symm
theorem powR_yes {d s : Nat} (h : powO d s = true) : powR d s = powV d s := by
  unfold powO at h
  simp only [Bool.and_eq_true] at h
  unfold powR
  rw [h.1, h.2.1]
  simp only [Bool.and_self, if_true]
  unfold onlyN
  rw [h.2.2]
  rfl
theorem pif_sum {fx fy : List Nat} {fr fd fs t sp dn : Nat} {ys : List Nat} (ha : alls (fun k => powO dn (sfwQ fx fy fr fd fs t sp k)) fx.length = true) (hq : ∀ k, k < fx.length → canon .f32 (ys.getD k 0) = fop .mul .f32 (fop .mul .f32 (powR dn (sfwQ fx fy fr fd fs t sp k)) (pifA fr)) (pifT fd)) : sumK ys fx.length = sumK (pifL fx fy fr fd fs t sp dn) fx.length := by
  refine sumK_likeP _ (fun k hk => ?_)
  rw [hq k hk, pifL_at hk, powR_yes (alls_getP _ ha k hk)]
  unfold pifQ
  rw [canon_fop]
def pifT0 (fd : Nat) : Nat := fop .mul .f32 (fop .mul .f32 (fop .mul .f32 1082130432 fd) (fop .sub .f32 1065353216 fd)) (fop .sub .f32 1065353216 fd)
theorem pifT_sure {fd : Nat} (h : within fd 0 1056964608 = true) :
    (∀ w, fopV .mul .f32 1082130432 fd w = fop .mul .f32 1082130432 fd) ∧ fopN .mul .f32 1082130432 fd = 0 ∧
    (∀ w, fopV .sub .f32 1065353216 fd w = fop .sub .f32 1065353216 fd) ∧ fopN .sub .f32 1065353216 fd = 0 ∧
    (∀ w, fopV .mul .f32 (fop .mul .f32 1082130432 fd) (fop .sub .f32 1065353216 fd) w = fop .mul .f32 (fop .mul .f32 1082130432 fd) (fop .sub .f32 1065353216 fd)) ∧ fopN .mul .f32 (fop .mul .f32 1082130432 fd) (fop .sub .f32 1065353216 fd) = 0 ∧
    (∀ w, fopV .mul .f32 (fop .mul .f32 (fop .mul .f32 1082130432 fd) (fop .sub .f32 1065353216 fd)) (fop .sub .f32 1065353216 fd) w = pifT0 fd) ∧ fopN .mul .f32 (fop .mul .f32 (fop .mul .f32 1082130432 fd) (fop .sub .f32 1065353216 fd)) (fop .sub .f32 1065353216 fd) = 0 ∧ canon .f32 (pifT0 fd) = pifT fd := by
  have b0 := draw_bd h
  have b4 : Bd .f32 2 1082130432 := ⟨false, 8388608, -21, by decide +kernel, by unfold Le2; decide⟩
  have b1 : Bd .f32 0 1065353216 := ⟨false, 8388608, -23, one_decode, by unfold Le2; decide⟩
  have c1 : Bd .f32 2 (fop .mul .f32 1082130432 fd) := bd_mul (a := 2) (c := 0) fmt32 b4 b0 (by decide) (by decide)
  have c2 : Bd .f32 1 (fop .sub .f32 1065353216 fd) := bd_sub (a := 0) fmt32 b1 b0 (by decide) (by decide)
  have c3 : Bd .f32 3 (fop .mul .f32 (fop .mul .f32 1082130432 fd) (fop .sub .f32 1065353216 fd)) := bd_mul (a := 2) (c := 1) fmt32 c1 c2 (by decide) (by decide)
  have c4 : Bd .f32 4 (pifT0 fd) := bd_mul (a := 3) (c := 1) fmt32 c3 c2 (by decide) (by decide)
  refine ⟨(bd_sure c1).1, (bd_sure c1).2, (bd_sure c2).1, (bd_sure c2).2, (bd_sure c3).1, (bd_sure c3).2, (bd_sure c4).1, (bd_sure c4).2, ?_⟩
  rw [bd_canon c4]
  unfold pifT0 pifT
  rw [bd_canon b4, bd_canon b0, bd_canon b1]
set_option maxHeartbeats 8000000 in
set_option maxRecDepth 20000 in
theorem i_PowerInFarm (X Y : Option Addr) (cx cy : Nat) (fx fy : List Nat) (fr fd fs : Nat) (t sp dn : Nat) (w : World) (h : Rs w X Y fx fy) (hn : FewS fx fy) :
    Calls Try.prog 171 #[.agg #[.slice X fx.length cx, .slice Y fy.length cy, .float .f32 fr, .float .f32 fd, .float .f32 fs], .float .f32 t, .float .f32 sp, .float .f32 dn] w fun e w' => ∃ r, e = .returned (.tuple #[.float .f32 r, .bool (pifO fx fy fr fd fs t sp dn)]) ∧ canon .f32 r = canon .f32 (pifR fx fy fr fd fs t sp dn) ∧ Below w.heap.size w w' := by
  have HP := Lib.hid h; clear h
  have HNF := Lib.hid hn; clear hn
  obtain ⟨w0, hw0⟩ : ∃ z, z = (w.alloc (.cells #[.slice X fx.length cx, .slice Y fy.length cy, .float .f32 fr, .float .f32 fd, .float .f32 fs] 50)).alloc (.cells #[.float .f32 dn] 22) := ⟨_, rfl⟩
  have K0 : Hid (BlkL w0 w.heap.size [.slice X fx.length cx, .slice Y fy.length cy, .float .f32 fr, .float .f32 fd, .float .f32 fs]) := Lib.hid (by rw [hw0]; exact (blkL_at w #[.slice X fx.length cx, .slice Y fy.length cy, .float .f32 fr, .float .f32 fd, .float .f32 fs] _ rfl).alloc _)
  have S0 : Hid (BlkL w0 (w.heap.size + 1) [.float .f32 dn]) := Lib.hid (by rw [hw0]; exact blkL_at (w.alloc _) #[.float .f32 dn] _ (by simp))
  have B0 : Hid (Below w.heap.size w w0) := Lib.hid (by rw [hw0]; exact ((Below.refl _ _).alloc (Nat.le_refl _) _).alloc (by simp) _)
  obtain ⟨k0, k1, k2, k3, k4⟩ := K0.out.five
  go_enter Try.func171, Try.ntmps171
  go_upto_region 1 with fail
  rw [← hw0]
  clear hw0
  go_wp2_with fail
  refine (i_SpeedsInFarm X Y cx cy fx fy fr fd fs t sp _ ⟨HP.out.1.below B0.out, HP.out.2.below B0.out⟩ HNF.out).mono ?_
  rintro e w1 ⟨R1, c1, g1, rfl, ho, b1⟩
  clear k0 k1 k2 k3 k4
  have K1 := Lib.hid (K0.out.below b1)
  have S1 := Lib.hid (S0.out.below b1)
  have B1 : Hid (Below w.heap.size w w1) := Lib.hid (below_of B0.out B0.out.size b1)
  have HL1 := Lib.hid ho.fl
  clear b1 ho
  cases hv : sfwO fx fy fr fd fs t sp
  · have HN : Hid (pifO fx fy fr fd fs t sp dn = false) := Lib.hid (pifO_no hv)
    clear hv
    go_wp2
    refine bodyPost_ret (results_tmp2 rfl _ _ _) rfl ?_
    rw [pifR_no HN.out, HN.out]
    exact ⟨0, rfl, rfl, B1.out⟩
  · have HO := Lib.hid hv
    have HG := Lib.hid (sfwG_yes hv)
    have H3 := Lib.hid (sfwO_parts hv)
    clear hv
    rw [HG.out] at HL1
    rw [HG.out]
    have HLX : Hid ((sfwX fx fy fr fd fs t sp).length = fx.length) := Lib.hid (sfwX_length ..)
    obtain ⟨k0, k1, k2, k3, k4⟩ := K1.out.five
    have hdr : within fd 0 1056964608 = true := by
      obtain ⟨-, -, h3⟩ := frmV_parts H3.out.1
      unfold frmN at h3
      simp only [Bool.and_eq_true] at h3
      exact h3.2.2.2
    obtain ⟨t1, t2, s1, s2, u1, u2, v1, v2, hT⟩ := pifT_sure hdr
    have HT := Lib.hid hT
    clear hT hdr
    obtain ⟨VA, hVA⟩ : ∃ z, z = fopV .mul .f32 (fopV .mul .f32 1078530011 fr w1) fr (w1.drewN (fopN .mul .f32 1078530011 fr)) := ⟨_, rfl⟩
    have HVA : Hid (canon .f32 VA = pifA fr) := Lib.hid (by rw [hVA, canon_fopV, canon_fopV]; rfl)
    obtain ⟨w2, hw2⟩ : ∃ z, z = ((w1.drewN (fopN .mul .f32 1078530011 fr + fopN .mul .f32 (fopV .mul .f32 1078530011 fr w1) fr)).alloc (.cells #[.float .f32 0] 22)).setCell ⟨w1.heap.size, 0, none⟩ (.float .f32 VA) := ⟨_, rfl⟩
    have hbA : BlkL ((w1.drewN (fopN .mul .f32 1078530011 fr + fopN .mul .f32 (fopV .mul .f32 1078530011 fr w1) fr)).alloc (.cells #[.float .f32 0] 22)) w1.heap.size [.float .f32 0] := blkL_at (w1.drewN _) #[.float .f32 0] _ rfl
    have n1 := (hbA.2 0 _ rfl).1
    have n2 := (hbA.2 0 _ rfl).2
    have b2 : Below w1.heap.size w1 w2 := by rw [hw2]; exact ((below_draws (Below.refl _ _) _).alloc (Nat.le_refl _) _).setCell (p := ⟨w1.heap.size, 0, none⟩) (Nat.le_refl _) _
    have D2 : Hid (BlkL w2 w1.heap.size [.float .f32 VA]) := Lib.hid (by rw [hw2]; exact hbA.set (i := 0) (by simp) (.float .f32 VA))
    have K2 := Lib.hid (K1.out.below b2)
    have S2 := Lib.hid (S1.out.below b2)
    have HL2 := Lib.hid (HL1.out.below b2)
    have B2 : Hid (Below w.heap.size w w2) := Lib.hid (below_of B1.out B1.out.size b2)
    clear hbA b2
    go_upto_region 5 with fail
    rw [← hVA, ← hw2]
    clear hw2 hVA n1 n2 k0 k1 k2 k3 k4
    obtain ⟨k0, k1, k2, k3, k4⟩ := K2.out.five
    obtain ⟨w3, hw3⟩ : ∃ z, z = w2.alloc (.cells #[.float .f32 (pifT0 fd)] 22) := ⟨_, rfl⟩
    have b3 : Below w2.heap.size w2 w3 := by rw [hw3]; exact (Below.refl _ _).alloc (Nat.le_refl _) _
    have D3 : Hid (BlkL w3 w2.heap.size [.float .f32 (pifT0 fd)]) := Lib.hid (by rw [hw3]; exact blkL_at w2 #[.float .f32 (pifT0 fd)] _ rfl)
    have E3 := Lib.hid (D2.out.below b3)
    have S3 := Lib.hid (S2.out.below b3)
    have HL3 := Lib.hid (HL2.out.below b3)
    have B3 : Hid (Below w.heap.size w w3) := Lib.hid (below_of B2.out B2.out.size b3)
    clear b3
    go_upto_region 6 with fail
    rw [← hw3]
    clear hw3 k0 k1 k2 k3 k4 t1 t2 s1 s2 u1 u2 v1 v2
    have HSZ := Lib.hid (frmV_size H3.out.1)
    have HAT : Hid (∀ k, k < (sfwX fx fy fr fd fs t sp).length → ∀ wr, Below w3.heap.size w3 wr → Calls Try.prog 204 #[.float .f32 ((sfwX fx fy fr fd fs t sp).getD k 0), .pointer (some ⟨w.heap.size + 1, 0, none⟩), .pointer (some ⟨w1.heap.size, 0, none⟩), .pointer (some ⟨w2.heap.size, 0, none⟩)] wr fun e w' => ∃ r, e = .returned (.tuple #[.float .f32 r, .bool (powO dn (sfwQ fx fy fr fd fs t sp k))]) ∧ canon .f32 r = fop .mul .f32 (fop .mul .f32 (powR dn (sfwQ fx fy fr fd fs t sp k)) (pifA fr)) (pifT fd) ∧ Below wr.heap.size wr w') := Lib.hid (fun k hk wr hb => by
      have h := i_pifAt dn VA (pifT0 fd) ((sfwX fx fy fr fd fs t sp).getD k 0) (w.heap.size + 1) w1.heap.size w2.heap.size wr ((S3.out.below hb).2 0 _ rfl).1 ((E3.out.below hb).2 0 _ rfl).1 ((D3.out.below hb).2 0 _ rfl).1
      rw [HVA.out, HT.out, sfwX_at (by rw [← HLX.out]; exact hk)] at h
      rw [sfwX_at (by rw [← HLX.out]; exact hk)]
      exact h)
    have HPW := Lib.hid (i_powersOf_pf _ _ _ (fun k => fop .mul .f32 (fop .mul .f32 (powR dn (sfwQ fx fy fr fd fs t sp k)) (pifA fr)) (pifT fd)) (fun k => powO dn (sfwQ fx fy fr fd fs t sp k)) R1 c1 (sfwX fx fy fr fd fs t sp) w3 HL3.out (by rw [HLX.out]; have := HSZ.out; omega) HAT.out)
    go_wp2_with fail
    refine HPW.out.mono ?_
    rintro e w4 ⟨A4, c4, g4, ys, rfl, ho4, hn4, hy4, b4⟩
    rw [HLX.out] at hn4 hy4
    rw [HLX.out]
    have HFL := Lib.hid ho4.fl
    have HN4 := Lib.hid hn4
    have HY4 := Lib.hid hy4
    have B4 : Hid (Below w.heap.size w w4) := Lib.hid (below_of B3.out B3.out.size b4)
    clear ho4 hn4 hy4 b4
    have HYL : Hid (ys.length ≤ 256) := Lib.hid (by
      cases ha : alls (fun k => powO dn (sfwQ fx fy fr fd fs t sp k)) fx.length
      · rw [HN4.out ha]; simp
      · rw [(HY4.out ha).1]; have := HSZ.out; omega)
    have HPO := Lib.hid (pif_alls (dn := dn) HO.out)
    go_wp2_with fail
    refine (i_sumOfPowers A4 c4 ys _ _ HFL.out HYL.out).mono ?_
    rintro e w5 ⟨r, rfl, hr, b5⟩
    have B5 : Hid (Below w.heap.size w w5) := Lib.hid (below_of B4.out B4.out.size b5)
    have HR := Lib.hid hr
    clear b5 hr
    go_wp2
    refine bodyPost_ret (results_tmp2 rfl _ _ _) rfl ?_
    have hr := HR.out
    cases ha : alls (fun k => powO dn (sfwQ fx fy fr fd fs t sp k)) fx.length
    · have ho : pifO fx fy fr fd fs t sp dn = false := by rw [HPO.out, ha]; rfl
      rw [ha] at hr
      rw [pifR_no ho, ho]
      exact ⟨r, by simp, by rw [hr, if_neg (by decide), canon_zero], B5.out⟩
    · obtain ⟨hl, hq⟩ := HY4.out ha
      have hs := pif_sum ha hq
      rw [ha, hl, hs] at hr
      have ho := HPO.out
      rw [ha, Bool.true_and] at ho
      refine ⟨r, by rw [ho]; simp [hl, hs], ?_, B5.out⟩
      rw [hr]
      unfold pifR onlyN
      rw [ho]
      cases hf : fin .f32 (sumK (pifL fx fy fr fd fs t sp dn) fx.length)
      · simp [canon_zero]
      · simp only [if_true]
        exact (canon_sumKP _ _).symm
end Go.Proofs.Ytmadlabnhjhfiaa
namespace Go.Proofs.Ytmadlabnhjhfiaa
open Go Go.RowKit
def pifA0 (fr : Nat) : Nat := fop .mul .f32 (fop .mul .f32 1078530011 fr) fr
theorem rad_bd {r : Nat} (h1 : posi r = true) (h2 : leq32 r 1148846080 = true) : Bd .f32 10 r := by
  obtain ⟨m, i, hd, -⟩ := posi_num h1
  have c2 : FloatKind.f32.decode 1148846080 = .number false 16384000 (-14) := by decide +kernel
  unfold leq32 at h2
  rw [order_numbers hd c2, cmp_lt, cmp_eq] at h2
  simp only [Ieee.signed, Bool.false_eq_true, if_false, Nat.shiftLeft_eq, Bool.or_eq_true, decide_eq_true_eq] at h2
  refine ⟨false, m, i, hd, ?_⟩
  have hb : m * 2 ^ (i - min i (-14)).toNat ≤ 16384000 * 2 ^ (-14 - min i (-14)).toNat := by
    generalize m * 2 ^ (i - min i (-14)).toNat = A at h2 ⊢
    generalize 16384000 * 2 ^ (-14 - min i (-14)).toNat = B at h2 ⊢
    omega
  have h3 : 16384000 * 2 ^ (-14 - min i (-14)).toNat ≤ 2 ^ (10 - min i (-14)).toNat := by
    rw [show (10 - min i (-14)).toNat = 24 + (-14 - min i (-14)).toNat by omega, Nat.pow_add]
    exact Nat.mul_le_mul_right _ (by decide)
  have h4 : Le2 (m * 2 ^ (i - min i (-14)).toNat) (min i (-14)) 10 := ⟨Nat.le_trans hb h3, fun h => by omega⟩
  rw [← le2_shift (i - min i (-14)).toNat, show i - ((i - min i (-14)).toNat : Int) = min i (-14) by omega]
  exact h4
theorem pifA_sure {fr : Nat} (h1 : posi fr = true) (h2 : leq32 fr 1148846080 = true) :
    (∀ w, fopV .mul .f32 1078530011 fr w = fop .mul .f32 1078530011 fr) ∧ fopN .mul .f32 1078530011 fr = 0 ∧
    (∀ w, fopV .mul .f32 (fop .mul .f32 1078530011 fr) fr w = pifA0 fr) ∧ fopN .mul .f32 (fop .mul .f32 1078530011 fr) fr = 0 ∧ canon .f32 (pifA0 fr) = pifA fr := by
  have b0 := rad_bd h1 h2
  have b4 : Bd .f32 2 1078530011 := ⟨false, 13176795, -22, by decide +kernel, by unfold Le2; decide⟩
  have c1 : Bd .f32 12 (fop .mul .f32 1078530011 fr) := bd_mul (a := 2) (c := 10) fmt32 b4 b0 (by decide) (by decide)
  have c2 : Bd .f32 22 (pifA0 fr) := bd_mul (a := 12) (c := 10) fmt32 c1 b0 (by decide) (by decide)
  refine ⟨(bd_sure c1).1, (bd_sure c1).2, (bd_sure c2).1, (bd_sure c2).2, ?_⟩
  rw [bd_canon c2]
  unfold pifA0 pifA
  rw [bd_canon b4, bd_canon b0]
set_option maxHeartbeats 8000000 in
set_option maxRecDepth 20000 in
theorem s_l06Power (X Y : Option Addr) (cx cy : Nat) (fx fy : List Nat) (fr fd fs : Nat) (B t sp dn : Nat) (w : World) (h : Rs w X Y fx fy) (hn : FewS fx fy) (hk : BlkL w B [.slice X fx.length cx, .slice Y fy.length cy, .float .f32 fr, .float .f32 fd, .float .f32 fs]) (ho : sfwO fx fy fr fd fs t sp = true) :
    Calls Try.prog 170 #[.pointer (some ⟨B, 0, none⟩), .float .f32 t, .float .f32 sp, .float .f32 dn] w fun e w' => ∃ r, e = .returned (.float .f32 r) ∧ canon .f32 r = sumK (pifL fx fy fr fd fs t sp dn) fx.length ∧ Below w.heap.size w w' := by
  have HP := Lib.hid h
  have HNF := Lib.hid hn
  have HK := Lib.hid hk
  have H3 := Lib.hid (sfwO_parts ho)
  clear h hn hk ho
  have hN : frmN fr fd fs = true := (frmV_parts H3.out.1).2.2
  unfold frmN at hN
  simp only [Bool.and_eq_true] at hN
  obtain ⟨a1, a2, a3, a4, hA⟩ := pifA_sure hN.1 hN.2.1
  obtain ⟨t1, t2, s1, s2, u1, u2, v1, v2, hT⟩ := pifT_sure hN.2.2.2
  have HA := Lib.hid hA
  have HT := Lib.hid hT
  have HSZ := Lib.hid (frmV_size H3.out.1)
  have HLX : Hid ((sfwX fx fy fr fd fs t sp).length = fx.length) := Lib.hid (sfwX_length ..)
  have HLA : Hid (∀ k, k < fx.length → canon .f32 ((pifL fx fy fr fd fs t sp dn).getD k 0) = fop .mul .f32 (fop .mul .f32 (powV dn (sfwQ fx fy fr fd fs t sp k)) (pifA fr)) (pifT fd)) := Lib.hid (fun k hk => by rw [pifL_at hk]; unfold pifQ; rw [canon_fop])
  clear hN hA hT
  obtain ⟨k0, k1, k2, k3, k4⟩ := HK.out.five
  go_enter Try.func170, Try.ntmps170
  go_wp2
  go_quiet (fail)
  go_wp2
  go_quiet (fail)
  go_wp2_with fail
  clear a1 a2 a3 a4 t1 t2 s1 s2 u1 u2 v1 v2 k0 k1 k2 k3 k4
  refine (s_l06Speeds X Y cx cy fx fy fr fd fs B t sp _ ⟨HP.out.1.below (below_draws (Below.refl _ _) _), HP.out.2.below (below_draws (Below.refl _ _) _)⟩ HNF.out (HK.out.below (below_draws (Below.refl _ _) _)) H3.out.1 H3.out.2.1 H3.out.2.2).mono ?_
  rintro e w1 ⟨R1, c1, g1, rfl, ho1, b1⟩
  rw [HLX.out]
  have B1 : Hid (Below w.heap.size w w1) := Lib.hid (below_of (below_draws (Below.refl _ _) _) (Nat.le_refl _) b1)
  have HL := Lib.hid ho1.fl
  clear ho1 b1
  obtain ⟨bs, os, rfl, -, -⟩ := HL.out.at_ (k := 0) (by rw [HLX.out]; have := HSZ.out; omega)
  have hs16 := HSZ.out.2.1
  go_wp2
  go_loopw [12, 13] (fun s i wr => ∃ (k n r : Nat), k ≤ fx.length ∧ i = .int .i64 k ∧ s = .float .f32 r ∧ Hid (canon .f32 r = sumK (pifL fx fy fr fd fs t sp dn) k) ∧ wr = w1.drewN n) (fun _ i _ => fx.length - (intOf i).toNat)
  case atStart => exact ⟨0, 0, 0, Nat.zero_le _, rfl, rfl, Lib.hid canon_zero, rfl⟩
  case round =>
    obtain ⟨k, n, r, hk, rfl, rfl, HS, rfl⟩ := hrel
    by_cases hlt : k < fx.length
    · have hc : (w1.drewN n).cell? ⟨bs, os + k, none⟩ = some (.float .f32 ((sfwX fx fy fr fd fs t sp).getD k 0)) := (HL.out.draws n).same rfl (by rw [HLX.out]; exact hlt)
      rw [sfwX_at hlt] at hc
      have HQ := Lib.hid (HLA.out k hlt)
      generalize sfwQ fx fy fr fd fs t sp k = x at hc HQ
      go_wp2_with fail
      refine (s_l04Power dn x _).mono ?_
      rintro e w2 ⟨p, m, rfl, hp, rfl⟩
      have HPW := Lib.hid hp
      clear hp hc
      go_wp2
      go_roundw
      case rel => exact ⟨k + 1, _, _, by omega, by go_num, rfl, Lib.hid (by simp only [canon_fopV, sumK, HS.out, HPW.out, HA.out, HT.out, HQ.out]), by first | rfl | (simp only [World.drewN_drewN]; rfl)⟩
      case measure => simp [intOf]; omega
    · have hkk : k = fx.length := by omega
      subst hkk
      go_wp2
      go_ret
      exact ⟨r, rfl, HS.out, below_draws B1.out _⟩
end Go.Proofs.Ytmadlabnhjhfiaa
namespace Go.Proofs.Ytmadlabnhjhfiaa
open Go Go.RowKit
def fpT (k n : Nat) : Nat := fop .quo .f32 (floatOfInt .f32 (k : Int)) (floatOfInt .f32 (n : Int))
def fpTs (n : Nat) : Nat → Bool
  | 0 => true
  | k + 1 => fpTs n k && (fin .f32 (fpT k n) && !isn .f32 (fpT k n))
def fpTt : Nat → Bool
  | 0 => true
  | n + 1 => fpTt n && fpTs (n + 1) (n + 1)
theorem fpTt_all : fpTt 16 = true := by decide +kernel
theorem fpTt_at : ∀ m, fpTt m = true → ∀ n, 1 ≤ n → n ≤ m → fpTs n n = true := by
  intro m
  induction m with
  | zero => intro _ n h1 h2; omega
  | succ m ih =>
    intro h n h1 h2
    simp only [fpTt, Bool.and_eq_true] at h
    by_cases e : n = m + 1
    · subst e; exact h.2
    · exact ih h.1 n h1 (by omega)
theorem fpTs_at {n : Nat} : ∀ m, fpTs n m = true → ∀ k, k < m → fin .f32 (fpT k n) = true ∧ isn .f32 (fpT k n) = false := by
  intro m
  induction m with
  | zero => intro _ k hk; omega
  | succ m ih =>
    intro h k hk
    simp only [fpTs, Bool.and_eq_true, Bool.not_eq_true'] at h
    by_cases e : k = m
    · subst e; exact h.2
    · exact ih h.1 k (by omega)
theorem fpT_fin {k n : Nat} (hk : k < n) (hn : n ≤ 16) : fin .f32 (fpT k n) = true ∧ isn .f32 (fpT k n) = false := fpTs_at n (fpTt_at 16 fpTt_all n (by omega) hn) k hk
theorem fpT_sure {k n : Nat} (hk : k < n) (hn : n ≤ 16) : (∀ w, fopV .quo .f32 (floatOfInt .f32 (k : Int)) (floatOfInt .f32 (n : Int)) w = fpT k n) ∧ fopN .quo .f32 (floatOfInt .f32 (k : Int)) (floatOfInt .f32 (n : Int)) = 0 := fop_sure (fpT_fin hk hn).2
/-- whether a sector's power is told, and what it is -/
def fpQ (fx fy : List Nat) (fr fd fs dn : Nat) (l : List Nat) (n k : Nat) : Bool := pifO fx fy fr fd fs (fpT k n) (l.getD k 0) dn
def fpP (fx fy : List Nat) (fr fd fs dn : Nat) (a l : List Nat) (n k : Nat) : Nat := fop .mul .f32 (canon .f32 (a.getD k 0)) (canon .f32 (pifR fx fy fr fd fs (fpT k n) (l.getD k 0) dn))
def fpL (fx fy : List Nat) (fr fd fs dn : Nat) (a l : List Nat) (n k : Nat) : Nat := fop .mul .f32 (canon .f32 (a.getD k 0)) (sumK (pifL fx fy fr fd fs (fpT k n) (l.getD k 0) dn) fx.length)
def fpS (fx fy : List Nat) (fr fd fs dn : Nat) (a l : List Nat) (n : Nat) : Nat → Nat
  | 0 => 0
  | k + 1 => fop .add .f32 (fpS fx fy fr fd fs dn a l n k) (fpL fx fy fr fd fs dn a l n k)
def fpO (fx fy : List Nat) (fr fd fs dn : Nat) (a l : List Nat) : Bool := rosV a l && (frmV fx fy fr fd fs && (amount dn && fin .f32 (fpS fx fy fr fd fs dn a l a.length a.length)))
def fpR (fx fy : List Nat) (fr fd fs dn : Nat) (a l : List Nat) : Nat := if fpO fx fy fr fd fs dn a l then fpS fx fy fr fd fs dn a l a.length a.length else 0
theorem fpR_no {fx fy : List Nat} {fr fd fs dn : Nat} {a l : List Nat} (h : fpO fx fy fr fd fs dn a l = false) : fpR fx fy fr fd fs dn a l = 0 := by unfold fpR; rw [h]; rfl
theorem fpO_r {fx fy : List Nat} {fr fd fs dn : Nat} {a l : List Nat} (h : rosV a l = false) : fpO fx fy fr fd fs dn a l = false := by unfold fpO; rw [h]; rfl
theorem fpO_f {fx fy : List Nat} {fr fd fs dn : Nat} {a l : List Nat} (h : frmV fx fy fr fd fs = false) : fpO fx fy fr fd fs dn a l = false := by unfold fpO; rw [h]; simp
theorem fpO_d {fx fy : List Nat} {fr fd fs dn : Nat} {a l : List Nat} (h : amount dn = false) : fpO fx fy fr fd fs dn a l = false := by unfold fpO; rw [h]; simp
theorem canon_fpS (fx fy : List Nat) (fr fd fs dn : Nat) (a l : List Nat) (n : Nat) : ∀ k, canon .f32 (fpS fx fy fr fd fs dn a l n k) = fpS fx fy fr fd fs dn a l n k
  | 0 => canon_zero
  | k + 1 => by simp only [fpS]; rw [canon_fop]
theorem fpS_no {fx fy : List Nat} {fr fd fs dn : Nat} {a l : List Nat} {n k m : Nat} (h : fin .f32 (fpL fx fy fr fd fs dn a l n k) = false) (hk : k < m) : fin .f32 (fpS fx fy fr fd fs dn a l n m) = false := by
  induction m with
  | zero => omega
  | succ m ih =>
    by_cases e : k = m
    · rw [← e]; exact addR_not_fin h
    · exact addL_not_fin (ih (by omega))
/-- where a sector's power is not told, there is none of the rose -/
theorem fpQ_no {fx fy : List Nat} {fr fd fs dn : Nat} {a l : List Nat} {k : Nat} (hk : k < a.length) (h : fpQ fx fy fr fd fs dn l a.length k = false) : fpO fx fy fr fd fs dn a l = false := by
  cases hr : rosV a l
  · exact fpO_r hr
  cases hf : frmV fx fy fr fd fs
  · exact fpO_f hf
  cases hd : amount dn
  · exact fpO_d hd
  obtain ⟨h1, h2, h3⟩ := rosV_sized hr
  have hs := amts_at (rosV_amts hr).2 k (by omega)
  have hp : fin .f32 (sumK (pifL fx fy fr fd fs (fpT k a.length) (l.getD k 0) dn) fx.length) = false := by
    unfold fpQ pifO at h
    rw [sfwO_yes hf (fpT_fin hk h2).1 hs, hd] at h
    simpa using h
  have hq : fin .f32 (fpL fx fy fr fd fs dn a l a.length k) = false := mulR_not_fin hp
  unfold fpO
  rw [fpS_no hq hk]
  simp
theorem fpQ_yes {fx fy : List Nat} {fr fd fs dn : Nat} {a l : List Nat} {k : Nat} (h : fpQ fx fy fr fd fs dn l a.length k = true) : frmV fx fy fr fd fs = true ∧ amount dn = true ∧ fpP fx fy fr fd fs dn a l a.length k = fpL fx fy fr fd fs dn a l a.length k := by
  unfold fpQ at h
  have h' := h
  unfold pifO at h
  rw [Bool.and_eq_true, Bool.and_eq_true] at h
  refine ⟨(sfwO_parts h.1).1, h.2.1, ?_⟩
  unfold fpP fpL pifR
  rw [h', if_pos rfl, canon_sumKP]
theorem sumK_fp {fx fy : List Nat} {fr fd fs dn : Nat} {a l zs : List Nat} {n : Nat} (h : ∀ k, k < n → canon .f32 (zs.getD k 0) = fpL fx fy fr fd fs dn a l a.length k) : ∀ k, k ≤ n → sumK zs k = fpS fx fy fr fd fs dn a l a.length k := by
  intro k
  induction k with
  | zero => intro _; rfl
  | succ k ih => intro hk; simp only [sumK, fpS, ih (by omega), h k (by omega)]
end Go.Proofs.Ytmadlabnhjhfiaa
namespace Go.Proofs.Ytmadlabnhjhfiaa
open Go Go.RowKit
theorem i_turnOf (k n : Nat) (w : World) (hk : k < n) (hn : n ≤ 16) :
    Calls Try.prog 172 #[.int .i64 (k : Int), .int .i64 (n : Int)] w fun e w' => e = .returned (.float .f32 (fpT k n)) ∧ w' = w := by
  obtain ⟨s1, s2⟩ := fpT_sure hk hn
  clear hk hn
  go_enter Try.func172, Try.ntmps172
  go_wp2
  go_ret
  exact ⟨rfl, rfl⟩
set_option maxHeartbeats 8000000 in
set_option maxRecDepth 100000 in
theorem i_sectorPower (X Y : Option Addr) (cx cy : Nat) (fx fy : List Nat) (fr fd fs : Nat) (A L : Option Addr) (ca cl : Nat) (a l : List Nat) (k dn : Nat) (w : World) (h : Rs w X Y fx fy) (hn : FewS fx fy) (hr : Rs w A L a l) (hk : k < a.length) (hl : l.length = a.length) (hs : a.length ≤ 16) :
    Calls Try.prog 118 #[.agg #[.slice X fx.length cx, .slice Y fy.length cy, .float .f32 fr, .float .f32 fd, .float .f32 fs], .agg #[.slice A a.length ca, .slice L l.length cl], .int .i64 (k : Int), .float .f32 dn] w fun e w' => ∃ r, e = .returned (.tuple #[.float .f32 r, .bool (fpQ fx fy fr fd fs dn l a.length k)]) ∧ canon .f32 r = fpP fx fy fr fd fs dn a l a.length k ∧ Below w.heap.size w w' := by
  have HP := Lib.hid h; clear h
  have HNF := Lib.hid hn; clear hn
  have hkl : k < l.length := by rw [hl]; exact hk
  obtain ⟨ba, oa, rfl, hba0, hca⟩ := hr.1.at_ hk
  obtain ⟨bl, ol, rfl, hbl0, hcl⟩ := hr.2.at_ hkl
  have HLL := Lib.hid hl
  clear hl
  obtain ⟨w0, hw0⟩ : ∃ z, z = (w.alloc (.cells #[.slice X fx.length cx, .slice Y fy.length cy, .float .f32 fr, .float .f32 fd, .float .f32 fs] 50)).alloc (.cells #[.slice (some ⟨ba, oa, none⟩) a.length ca, .slice (some ⟨bl, ol, none⟩) l.length cl] 34) := ⟨_, rfl⟩
  have K0 : Hid (BlkL w0 w.heap.size [.slice X fx.length cx, .slice Y fy.length cy, .float .f32 fr, .float .f32 fd, .float .f32 fs]) := Lib.hid (by rw [hw0]; exact (blkL_at w #[.slice X fx.length cx, .slice Y fy.length cy, .float .f32 fr, .float .f32 fd, .float .f32 fs] _ rfl).alloc _)
  have S0 : Hid (BlkL w0 (w.heap.size + 1) [.slice (some ⟨ba, oa, none⟩) a.length ca, .slice (some ⟨bl, ol, none⟩) l.length cl]) := Lib.hid (by rw [hw0]; exact blkL_at (w.alloc _) #[.slice (some ⟨ba, oa, none⟩) a.length ca, .slice (some ⟨bl, ol, none⟩) l.length cl] _ (by simp))
  have B0 : Hid (Below w.heap.size w w0) := Lib.hid (by rw [hw0]; exact ((Below.refl _ _).alloc (Nat.le_refl _) _).alloc (by simp) _)
  unfold fpQ fpP
  generalize l.getD k 0 = x at hcl
  generalize a.getD k 0 = y at hca
  have HXC : Hid (w0.cell? ⟨bl, ol + k, none⟩ = some (.float .f32 x)) := Lib.hid (by rw [B0.out.cell (p := ⟨bl, ol + k, none⟩) hbl0]; exact hcl)
  have HYC : Hid (w0.cell? ⟨ba, oa + k, none⟩ = some (.float .f32 y)) := Lib.hid (by rw [B0.out.cell (p := ⟨ba, oa + k, none⟩) hba0]; exact hca)
  have hba : ba < w0.heap.size := Nat.lt_of_lt_of_le hba0 B0.out.size
  have hbl : bl < w0.heap.size := Nat.lt_of_lt_of_le hbl0 B0.out.size
  clear hca hcl hr hba0 hbl0
  go_enter Try.func118, Try.ntmps118
  go_upto_region 1 with fail
  rw [← hw0]
  clear hw0
  refine wp_region_inv5 (fun iq wv v => match iq with
    | 0 => v = .agg #[.slice X fx.length cx, .slice Y fy.length cy, .float .f32 fr, .float .f32 fd, .float .f32 fs]
    | 1 => v = .int .i64 k
    | 2 => v = .pointer (some ⟨(w.heap.size + 1), 0, none⟩)
    | 3 => v = .slice (some ⟨ba, oa, none⟩) a.length ca
    | 4 => v = .int .i64 a.length
    | 5 => v = .float .f32 (fpT k a.length)
    | 6 => v = .pointer (some ⟨(w.heap.size + 1), 1, none⟩)
    | 7 => v = .slice (some ⟨bl, ol, none⟩) l.length cl
    | 8 => v = .int .i64 k
    | 9 => v = .pointer (some ⟨bl, ol + k, none⟩)
    | 10 => v = .float .f32 x
    | 11 => v = .float .f32 dn
    | 12 => ∃ r, v = .tuple #[.float .f32 r, .bool (pifO fx fy fr fd fs (fpT k a.length) x dn)] ∧ canon .f32 r = canon .f32 (pifR fx fy fr fd fs (fpT k a.length) x dn)
    | 13 => ∃ r, v = .tuple #[.float .f32 r, .bool (pifO fx fy fr fd fs (fpT k a.length) x dn)] ∧ canon .f32 r = canon .f32 (pifR fx fy fr fd fs (fpT k a.length) x dn)
    | 14 => ∃ r, v = .float .f32 r ∧ canon .f32 r = canon .f32 (pifR fx fy fr fd fs (fpT k a.length) x dn)
    | 15 => v = .bool (pifO fx fy fr fd fs (fpT k a.length) x dn)
    | 16 => ∃ r, v = .float .f32 r ∧ canon .f32 r = canon .f32 (pifR fx fy fr fd fs (fpT k a.length) x dn)
    | 17 => v = .bool (pifO fx fy fr fd fs (fpT k a.length) x dn)
    | _ => False) (fun _ ww => Below w0.heap.size w0 ww) (fun w w' => Below w.heap.size w w') ?hmono (by kernel_rfl) (by kernel_rfl) ((Below.refl _ _).drew) ?hop ?hend
  case hmono =>
    intro i wa wb v hR hV
    rcases i with _ | _ | _ | _ | _ | _ | _ | _ | _ | _ | _ | _ | _ | _ | _ | _ | _ | _ | i
    · exact hV
    · exact hV
    · exact hV
    · exact hV
    · exact hV
    · exact hV
    · exact hV
    · exact hV
    · exact hV
    · exact hV
    · exact hV
    · exact hV
    · exact hV
    · exact hV
    · exact hV
    · exact hV
    · exact hV
    · exact hV
    · exact hV
  case hop =>
    intro q o hq listed act w3 hI hnot hcl hall
    have hB := hI.cls
    have m0 := ((K0.out.below hB).2 0 _ rfl).1
    have m1 := ((K0.out.below hB).2 1 _ rfl).1
    have m2 := ((K0.out.below hB).2 2 _ rfl).1
    have m3 := ((K0.out.below hB).2 3 _ rfl).1
    have m4 := ((K0.out.below hB).2 4 _ rfl).1
    have n0 := ((S0.out.below hB).2 0 _ rfl).1
    have n1 := ((S0.out.below hB).2 1 _ rfl).1
    have mx : w3.cell? ⟨bl, ol + k, none⟩ = some (.float .f32 x) := by rw [hB.cell (p := ⟨bl, ol + k, none⟩) hbl]; exact HXC.out
    rcases q with _ | _ | _ | _ | _ | _ | _ | _ | _ | _ | _ | _ | _ | _ | _ | _ | _ | _ | q
    · simp at hq; subst hq
      have g4 : act.tmps[4]?.getD undef = .pointer (some ⟨w.heap.size, 0, none⟩) := hI.kept 4 (by kernel_rfl)
      clear hI hall hnot hcl
      refine .inl ⟨wanted_none rfl, ?_⟩
      unfold Oper.wp
      go_simp
      all_goals first | exact ⟨_, rfl, Below.refl _ _, rfl, hB⟩ | exact ⟨Below.refl _ _, hB⟩ | exact Below.refl _ _
    · simp at hq; subst hq
      have g2 : act.tmps[2]?.getD undef = .int .i64 k := hI.kept 2 (by kernel_rfl)
      clear hI hall hnot hcl
      refine .inl ⟨wanted_none rfl, ?_⟩
      unfold Oper.wp
      go_simp
      all_goals first | exact ⟨_, rfl, Below.refl _ _, rfl, hB⟩ | exact ⟨Below.refl _ _, hB⟩ | exact Below.refl _ _
    · simp at hq; subst hq
      have g5 : act.tmps[5]?.getD undef = .pointer (some ⟨(w.heap.size + 1), 0, none⟩) := hI.kept 5 (by kernel_rfl)
      clear hI hall hnot hcl
      refine .inl ⟨wanted_none rfl, ?_⟩
      unfold Oper.wp
      go_simp
      all_goals first | exact ⟨_, rfl, Below.refl _ _, rfl, hB⟩ | exact ⟨Below.refl _ _, hB⟩ | exact Below.refl _ _
    · simp at hq; subst hq
      have g15 : act.tmps[15]?.getD undef = .pointer (some ⟨(w.heap.size + 1), 0, none⟩) := hI.has 2 15 rfl (hall ⟨2, .data⟩ (by simp) rfl)
      clear hI hall hnot hcl
      refine .inl ⟨wanted_none rfl, ?_⟩
      unfold Oper.wp
      go_simp
      all_goals first | exact ⟨_, rfl, Below.refl _ _, rfl, hB⟩ | exact ⟨Below.refl _ _, hB⟩ | exact Below.refl _ _
    · simp at hq; subst hq
      have g16 : act.tmps[16]?.getD undef = .slice (some ⟨ba, oa, none⟩) a.length ca := hI.has 3 16 rfl (hall ⟨3, .data⟩ (by simp) rfl)
      clear hI hall hnot hcl
      refine .inl ⟨wanted_none rfl, ?_⟩
      unfold Oper.wp
      go_simp
      all_goals first | exact ⟨_, rfl, Below.refl _ _, rfl, hB⟩ | exact ⟨Below.refl _ _, hB⟩ | exact Below.refl _ _
    · simp at hq; subst hq
      have g14 : act.tmps[14]?.getD undef = .int .i64 k := hI.has 1 14 rfl (hall ⟨1, .data⟩ (by simp) rfl)
      have g17 : act.tmps[17]?.getD undef = .int .i64 a.length := hI.has 4 17 rfl (hall ⟨4, .data⟩ (by simp) rfl)
      clear hI hall hnot hcl
      refine .inl ⟨wanted_none rfl, ?_⟩
      unfold Oper.wp
      go_simp
      refine (i_turnOf k a.length _ hk hs).mono ?_
      rintro e w4 ⟨rfl, rfl⟩
      exact ⟨_, rfl, Below.refl _ _, rfl, hB⟩
    · simp at hq; subst hq
      have g5 : act.tmps[5]?.getD undef = .pointer (some ⟨(w.heap.size + 1), 0, none⟩) := hI.kept 5 (by kernel_rfl)
      clear hI hall hnot hcl
      refine .inl ⟨wanted_none rfl, ?_⟩
      unfold Oper.wp
      go_simp
      all_goals first | exact ⟨_, rfl, Below.refl _ _, rfl, hB⟩ | exact ⟨Below.refl _ _, hB⟩ | exact Below.refl _ _
    · simp at hq; subst hq
      have g19 : act.tmps[19]?.getD undef = .pointer (some ⟨(w.heap.size + 1), 1, none⟩) := hI.has 6 19 rfl (hall ⟨6, .data⟩ (by simp) rfl)
      clear hI hall hnot hcl
      refine .inl ⟨wanted_none rfl, ?_⟩
      unfold Oper.wp
      go_simp
      all_goals first | exact ⟨_, rfl, Below.refl _ _, rfl, hB⟩ | exact ⟨Below.refl _ _, hB⟩ | exact Below.refl _ _
    · simp at hq; subst hq
      have g2 : act.tmps[2]?.getD undef = .int .i64 k := hI.kept 2 (by kernel_rfl)
      clear hI hall hnot hcl
      refine .inl ⟨wanted_none rfl, ?_⟩
      unfold Oper.wp
      go_simp
      all_goals first | exact ⟨_, rfl, Below.refl _ _, rfl, hB⟩ | exact ⟨Below.refl _ _, hB⟩ | exact Below.refl _ _
    · simp at hq; subst hq
      have g20 : act.tmps[20]?.getD undef = .slice (some ⟨bl, ol, none⟩) l.length cl := hI.has 7 20 rfl (hall ⟨7, .data⟩ (by simp) rfl)
      have g21 : act.tmps[21]?.getD undef = .int .i64 k := hI.has 8 21 rfl (hall ⟨8, .data⟩ (by simp) rfl)
      clear hI hall hnot hcl
      refine .inl ⟨wanted_none rfl, ?_⟩
      unfold Oper.wp
      go_simp
      all_goals first | exact ⟨_, rfl, Below.refl _ _, rfl, hB⟩ | exact ⟨Below.refl _ _, hB⟩ | exact Below.refl _ _
    · simp at hq; subst hq
      have g22 : act.tmps[22]?.getD undef = .pointer (some ⟨bl, ol + k, none⟩) := hI.has 9 22 rfl (hall ⟨9, .data⟩ (by simp) rfl)
      clear hI hall hnot hcl
      refine .inl ⟨wanted_none rfl, ?_⟩
      unfold Oper.wp
      go_simp
      all_goals first | exact ⟨_, rfl, Below.refl _ _, rfl, hB⟩ | exact ⟨Below.refl _ _, hB⟩ | exact Below.refl _ _
    · simp at hq; subst hq
      have g3 : act.tmps[3]?.getD undef = .float .f32 dn := hI.kept 3 (by kernel_rfl)
      clear hI hall hnot hcl
      refine .inl ⟨wanted_none rfl, ?_⟩
      unfold Oper.wp
      go_simp
      all_goals first | exact ⟨_, rfl, Below.refl _ _, rfl, hB⟩ | exact ⟨Below.refl _ _, hB⟩ | exact Below.refl _ _
    · simp at hq; subst hq
      have g13 : act.tmps[13]?.getD undef = .agg #[.slice X fx.length cx, .slice Y fy.length cy, .float .f32 fr, .float .f32 fd, .float .f32 fs] := hI.has 0 13 rfl (hall ⟨0, .data⟩ (by simp) rfl)
      have g18 : act.tmps[18]?.getD undef = .float .f32 (fpT k a.length) := hI.has 5 18 rfl (hall ⟨5, .data⟩ (by simp) rfl)
      have g23 : act.tmps[23]?.getD undef = .float .f32 x := hI.has 10 23 rfl (hall ⟨10, .data⟩ (by simp) rfl)
      have g24 : act.tmps[24]?.getD undef = .float .f32 dn := hI.has 11 24 rfl (hall ⟨11, .data⟩ (by simp) rfl)
      clear hI hall hnot hcl
      refine .inl ⟨wanted_none rfl, ?_⟩
      unfold Oper.wp
      go_simp
      refine (i_PowerInFarm X Y cx cy fx fy fr fd fs (fpT k a.length) x dn _ ⟨HP.out.1.below (below_of B0.out B0.out.size hB), HP.out.2.below (below_of B0.out B0.out.size hB)⟩ HNF.out).mono ?_
      rintro e w4 ⟨r, rfl, hr4, b4⟩
      exact ⟨_, rfl, b4, ⟨r, rfl, hr4⟩, below_of hB hB.size b4⟩
    · simp at hq; subst hq
      obtain ⟨r12, g25, h12a⟩ := hI.has 12 25 rfl (hall ⟨12, .data⟩ (by simp) rfl)
      clear hI hall hnot hcl
      refine .inl ⟨wanted_none rfl, ?_⟩
      unfold Oper.wp
      go_simp
      first | exact ⟨_, rfl, Below.refl _ _, ⟨r12, rfl, h12a⟩⟩ | exact ⟨_, rfl, Below.refl _ _, ⟨r12, rfl, h12a⟩, hB⟩
    · simp at hq; subst hq
      obtain ⟨r13, g12, h13a⟩ := hI.has 13 12 rfl (hall ⟨13, .data⟩ (by simp) rfl)
      clear hI hall hnot hcl
      refine .inl ⟨wanted_none rfl, ?_⟩
      unfold Oper.wp
      go_simp
      first | exact ⟨_, rfl, Below.refl _ _, ⟨_, rfl, h13a⟩, hB⟩ | exact ⟨_, rfl, Below.refl _ _, ⟨_, rfl, h13a⟩⟩
    · simp at hq; subst hq
      obtain ⟨r13, g12, h13a⟩ := hI.has 13 12 rfl (hall ⟨13, .data⟩ (by simp) rfl)
      clear hI hall hnot hcl
      refine .inl ⟨wanted_none rfl, ?_⟩
      unfold Oper.wp
      go_simp
      all_goals first | exact ⟨_, rfl, Below.refl _ _, rfl, hB⟩ | exact ⟨Below.refl _ _, hB⟩ | exact Below.refl _ _
    · simp at hq; subst hq
      obtain ⟨r14, g26, h14a⟩ := hI.has 14 26 rfl (hall ⟨14, .data⟩ (by simp) rfl)
      clear hI hall hnot hcl
      refine .inl ⟨wanted_none rfl, ?_⟩
      unfold Oper.wp
      go_simp
      first | exact ⟨_, rfl, Below.refl _ _, ⟨_, rfl, h14a⟩⟩ | exact ⟨_, rfl, Below.refl _ _, ⟨_, rfl, h14a⟩, hB⟩
    · simp at hq; subst hq
      have g27 : act.tmps[27]?.getD undef = .bool (pifO fx fy fr fd fs (fpT k a.length) x dn) := hI.has 15 27 rfl (hall ⟨15, .data⟩ (by simp) rfl)
      clear hI hall hnot hcl
      refine .inl ⟨wanted_none rfl, ?_⟩
      unfold Oper.wp
      go_simp
      all_goals first | exact ⟨_, rfl, Below.refl _ _, rfl, hB⟩ | exact ⟨Below.refl _ _, hB⟩ | exact Below.refl _ _
    · simp at hq
  case hend =>
    intro listed act w3 hI hall
    have hB := hI.cls
    have m0 := ((K0.out.below hB).2 0 _ rfl).1
    have m1 := ((K0.out.below hB).2 1 _ rfl).1
    have m2 := ((K0.out.below hB).2 2 _ rfl).1
    have m3 := ((K0.out.below hB).2 3 _ rfl).1
    have m4 := ((K0.out.below hB).2 4 _ rfl).1
    have n0 := ((S0.out.below hB).2 0 _ rfl).1
    have n1 := ((S0.out.below hB).2 1 _ rfl).1
    have mx : w3.cell? ⟨bl, ol + k, none⟩ = some (.float .f32 x) := by rw [hB.cell (p := ⟨bl, ol + k, none⟩) hbl]; exact HXC.out
    obtain ⟨rp, g10, hrp⟩ := hI.has 16 10 rfl (hall 16 (by decide))
    have g11 : act.tmps[11]?.getD undef = .bool (pifO fx fy fr fd fs (fpT k a.length) x dn) := hI.has 17 11 rfl (hall 17 (by decide))
    have g0 := hI.kept 0 (by kernel_rfl)
    conv at g0 => rhs; whnf
    have g1 := hI.kept 1 (by kernel_rfl)
    conv at g1 => rhs; whnf
    have g2 := hI.kept 2 (by kernel_rfl)
    conv at g2 => rhs; whnf
    have g3 := hI.kept 3 (by kernel_rfl)
    conv at g3 => rhs; whnf
    have g4 := hI.kept 4 (by kernel_rfl)
    conv at g4 => rhs; whnf
    have g5 := hI.kept 5 (by kernel_rfl)
    conv at g5 => rhs; whnf
    have g6 : act.tmps[6]?.getD undef = undef := hI.kept 6 (by kernel_rfl)
    have g7 : act.tmps[7]?.getD undef = undef := hI.kept 7 (by kernel_rfl)
    have g8 := hI.kept 8 (by kernel_rfl)
    conv at g8 => rhs; whnf
    have g9 := hI.kept 9 (by kernel_rfl)
    conv at g9 => rhs; whnf
    have g28 : act.tmps[28]?.getD undef = undef := hI.kept 28 (by kernel_rfl)
    have g29 : act.tmps[29]?.getD undef = undef := hI.kept 29 (by kernel_rfl)
    have g30 : act.tmps[30]?.getD undef = undef := hI.kept 30 (by kernel_rfl)
    have g31 : act.tmps[31]?.getD undef = undef := hI.kept 31 (by kernel_rfl)
    have g32 : act.tmps[32]?.getD undef = undef := hI.kept 32 (by kernel_rfl)
    have g33 : act.tmps[33]?.getD undef = undef := hI.kept 33 (by kernel_rfl)
    have g34 : act.tmps[34]?.getD undef = undef := hI.kept 34 (by kernel_rfl)
    have g35 : act.tmps[35]?.getD undef = undef := hI.kept 35 (by kernel_rfl)
    have hsz : act.tmps.size = 36 := hI.size.trans (by kernel_rfl)
    have hd := hI.defers
    have HBE := Lib.hid hB
    have HRP := Lib.hid hrp
    clear hI hall hB hrp mx
    obtain ⟨tt, dd⟩ := act
    simp only at g0 g1 g2 g3 g4 g5 g6 g7 g8 g9 g10 g11 g28 g29 g30 g31 g32 g33 g34 g35 hsz hd
    subst hd
    have hl : tt = #[tt[0]?.getD undef, tt[1]?.getD undef, tt[2]?.getD undef, tt[3]?.getD undef, tt[4]?.getD undef, tt[5]?.getD undef, tt[6]?.getD undef, tt[7]?.getD undef, tt[8]?.getD undef, tt[9]?.getD undef, tt[10]?.getD undef, tt[11]?.getD undef, tt[12]?.getD undef, tt[13]?.getD undef, tt[14]?.getD undef, tt[15]?.getD undef, tt[16]?.getD undef, tt[17]?.getD undef, tt[18]?.getD undef, tt[19]?.getD undef, tt[20]?.getD undef, tt[21]?.getD undef, tt[22]?.getD undef, tt[23]?.getD undef, tt[24]?.getD undef, tt[25]?.getD undef, tt[26]?.getD undef, tt[27]?.getD undef, tt[28]?.getD undef, tt[29]?.getD undef, tt[30]?.getD undef, tt[31]?.getD undef, tt[32]?.getD undef, tt[33]?.getD undef, tt[34]?.getD undef, tt[35]?.getD undef] := (arr_lit hsz).trans rfl
    rw [g0, g1, g2, g3, g4, g5, g6, g7, g8, g9, g10, g11, g28, g29, g30, g31, g32, g33, g34, g35] at hl
    clear g0 g1 g2 g3 g4 g5 g6 g7 g8 g9 g10 g11 g28 g29 g30 g31 g32 g33 g34 g35 hsz
    generalize tt[12]?.getD undef = y12 at hl
    generalize tt[13]?.getD undef = y13 at hl
    generalize tt[14]?.getD undef = y14 at hl
    generalize tt[15]?.getD undef = y15 at hl
    generalize tt[16]?.getD undef = y16 at hl
    generalize tt[17]?.getD undef = y17 at hl
    generalize tt[18]?.getD undef = y18 at hl
    generalize tt[19]?.getD undef = y19 at hl
    generalize tt[20]?.getD undef = y20 at hl
    generalize tt[21]?.getD undef = y21 at hl
    generalize tt[22]?.getD undef = y22 at hl
    generalize tt[23]?.getD undef = y23 at hl
    generalize tt[24]?.getD undef = y24 at hl
    generalize tt[25]?.getD undef = y25 at hl
    generalize tt[26]?.getD undef = y26 at hl
    generalize tt[27]?.getD undef = y27 at hl
    subst hl
    have my : w3.cell? ⟨ba, oa + k, none⟩ = some (.float .f32 y) := by rw [HBE.out.cell (p := ⟨ba, oa + k, none⟩) hba]; exact HYC.out
    have HB3 : Hid (Below w.heap.size w w3) := Lib.hid (below_of B0.out B0.out.size HBE.out)
    go_wp2_with fail
    refine (i_mulNumbers _ _ _).mono ?_
    rintro e w4 ⟨rfl, rfl⟩
    go_wp2
    go_ret2
    exact ⟨_, rfl, by rw [canon_fopV, HRP.out], below_draws HB3.out _⟩
set_option maxHeartbeats 8000000 in
set_option maxRecDepth 100000 in
theorem i_FarmPower (X Y : Option Addr) (cx cy : Nat) (fx fy : List Nat) (fr fd fs : Nat) (A L : Option Addr) (ca cl : Nat) (a l : List Nat) (dn : Nat) (w : World) (h : Rs w X Y fx fy) (hn : FewS fx fy) (hr : Rs w A L a l) (hnr : FewS a l) :
    Calls Try.prog 40 #[.agg #[.slice X fx.length cx, .slice Y fy.length cy, .float .f32 fr, .float .f32 fd, .float .f32 fs], .agg #[.slice A a.length ca, .slice L l.length cl], .float .f32 dn] w fun e w' => ∃ r, e = .returned (.tuple #[.float .f32 r, .bool (fpO fx fy fr fd fs dn a l)]) ∧ canon .f32 r = canon .f32 (fpR fx fy fr fd fs dn a l) ∧ Below w.heap.size w w' := by
  have HP := Lib.hid h; clear h
  have HNF := Lib.hid hn; clear hn
  have HRS := Lib.hid hr; clear hr
  have HNR := Lib.hid hnr; clear hnr
  obtain ⟨w0, hw0⟩ : ∃ z, z = (w.alloc (.cells #[.slice X fx.length cx, .slice Y fy.length cy, .float .f32 fr, .float .f32 fd, .float .f32 fs] 50)).alloc (.cells #[.slice A a.length ca, .slice L l.length cl] 34) := ⟨_, rfl⟩
  have K0 : Hid (BlkL w0 w.heap.size [.slice X fx.length cx, .slice Y fy.length cy, .float .f32 fr, .float .f32 fd, .float .f32 fs]) := Lib.hid (by rw [hw0]; exact (blkL_at w #[.slice X fx.length cx, .slice Y fy.length cy, .float .f32 fr, .float .f32 fd, .float .f32 fs] _ rfl).alloc _)
  have S0 : Hid (BlkL w0 (w.heap.size + 1) [.slice A a.length ca, .slice L l.length cl]) := Lib.hid (by rw [hw0]; exact blkL_at (w.alloc _) #[.slice A a.length ca, .slice L l.length cl] _ (by simp))
  have B0 : Hid (Below w.heap.size w w0) := Lib.hid (by rw [hw0]; exact ((Below.refl _ _).alloc (Nat.le_refl _) _).alloc (by simp) _)
  have n0 := (S0.out.2 0 _ rfl).1
  have n1 := (S0.out.2 1 _ rfl).1
  go_enter Try.func40, Try.ntmps40
  go_upto_region 1 with fail
  rw [← hw0]
  clear hw0
  go_wp2_with fail
  refine (i_ValidRose A L ca cl a l _ ⟨HRS.out.1.below B0.out, HRS.out.2.below B0.out⟩ HNR.out).mono ?_
  rintro e w1 ⟨rfl, b1⟩
  clear n0 n1
  have K1 := Lib.hid (K0.out.below b1)
  have S1 := Lib.hid (S0.out.below b1)
  have B1 : Hid (Below w.heap.size w w1) := Lib.hid (below_of B0.out B0.out.size b1)
  clear b1
  cases hv : rosV a l
  · have HN : Hid (fpO fx fy fr fd fs dn a l = false) := Lib.hid (fpO_r hv)
    clear hv
    go_wp2
    refine bodyPost_ret (results_tmp2 rfl _ _ _) rfl ?_
    rw [fpR_no HN.out, HN.out]
    exact ⟨0, rfl, rfl, B1.out⟩
  · have HV := Lib.hid hv
    obtain ⟨q1, q2, q3⟩ := rosV_sized hv
    clear hv
    have HQ1 := Lib.hid q1
    have HQ3 := Lib.hid q3
    have HQ2 := Lib.hid q2
    have hlen : a.length ≤ 1048576 := by omega
    clear q1 q3
    have n0 := (S1.out.2 0 _ rfl).1
    obtain ⟨i0, hi, hz0, hz1, hz2⟩ := info_parts f32_info
    have hmk := run_make (P := Try.prog) w1 32 22 i0 (.float .f32 0) (by kernel_rfl) hi hz0 .i64 .i64 0 a.length (by omega) (by omega) (by rw [hz2]; omega) (by omega)
    rw [hz1] at hmk
    have hmk' : (Instr.makeSlice 32 (.int .i64 0) (.int .i64 a.length)).run Try.prog w1 = .ok (.slice (some ⟨w1.heap.size, 0, none⟩) 0 a.length) (w1.alloc (.cells (madeCells #[.float .f32 0] a.length) 22)) := by
      rw [hmk]; simp [Value.cells]
    clear hmk
    obtain ⟨w2, hw2⟩ : ∃ z, z = w1.alloc (.cells (madeCells #[.float .f32 0] a.length) 22) := ⟨_, rfl⟩
    have HST : Hid (Gr w2 w1.heap.size (.slice (some ⟨w1.heap.size, 0, none⟩) 0 a.length) []) := Lib.hid (by rw [hw2]; exact Gr.made _ _ _ _ (Nat.le_refl _) (by unfold maxLen; omega) (by simp [madeCells]))
    have b2 : Below w1.heap.size w1 w2 := by rw [hw2]; exact (Below.refl _ _).alloc (Nat.le_refl _) _
    rw [← hw2] at hmk'
    have K2 := Lib.hid (K1.out.below b2)
    have S2 := Lib.hid (S1.out.below b2)
    have B2 : Hid (Below w.heap.size w w2) := Lib.hid (below_of B1.out B1.out.size b2)
    have m0 := (S2.out.2 0 _ rfl).1
    have HB12 : Hid (Below w1.heap.size w1 w2) := Lib.hid b2
    clear b2 hw2
    go_wp2
    clear hmk' n0 m0
    go_loopw [8, 22] (fun v i wr => ∃ (k : Nat) (ys : List Nat), k ≤ a.length ∧ i = .int .i64 k ∧ Hid (Gr wr w1.heap.size v ys) ∧ Hid (ys.length = k) ∧ Hid (∀ j, j < k → canon .f32 (ys.getD j 0) = fpL fx fy fr fd fs dn a l a.length j) ∧ Hid (1 ≤ k → frmV fx fy fr fd fs = true ∧ amount dn = true) ∧ Hid (Below w1.heap.size w1 wr)) (fun _ i _ => a.length - (intOf i).toNat)
    case atStart => exact ⟨0, [], Nat.zero_le _, rfl, HST, Lib.hid rfl, Lib.hid (fun j hj => absurd hj (Nat.not_lt_zero j)), Lib.hid (fun h => absurd h (by decide)), HB12⟩
    case round =>
      obtain ⟨k, ys, hk, rfl, HG, HL, HQ, HC, HBR⟩ := hrel
      by_cases hlt : k < a.length
      · have k0 := ((K1.out.below HBR.out).2 0 _ rfl).1
        have k1 := ((K1.out.below HBR.out).2 1 _ rfl).1
        have k2 := ((K1.out.below HBR.out).2 2 _ rfl).1
        have k3 := ((K1.out.below HBR.out).2 3 _ rfl).1
        have k4 := ((K1.out.below HBR.out).2 4 _ rfl).1
        have s0 := ((S1.out.below HBR.out).2 0 _ rfl).1
        have s1 := ((S1.out.below HBR.out).2 1 _ rfl).1
        have BW : Hid (Below w.heap.size w wr) := Lib.hid (below_of B1.out B1.out.size HBR.out)
        go_wp2_with fail
        refine (i_sectorPower X Y cx cy fx fy fr fd fs A L ca cl a l k dn _ ⟨HP.out.1.below BW.out, HP.out.2.below BW.out⟩ HNF.out ⟨HRS.out.1.below BW.out, HRS.out.2.below BW.out⟩ hlt HQ3.out HQ2.out).mono ?_
        rintro e w3 ⟨r, rfl, hr, b3⟩
        have HG3 := Lib.hid (HG.out.below b3)
        have HB3 : Hid (Below w1.heap.size w1 w3) := Lib.hid (below_of HBR.out HBR.out.size b3)
        have HR := Lib.hid hr
        clear b3 hr k0 k1 k2 k3 k4 s0 s1
        cases pk : fpQ fx fy fr fd fs dn l a.length k
        · have HN : Hid (fpO fx fy fr fd fs dn a l = false) := Lib.hid (fpQ_no hlt pk)
          clear pk
          go_wp2
          go_ret2
          rw [fpR_no HN.out, HN.out]
          exact ⟨0, rfl, rfl, below_of B1.out B1.out.size HB3.out⟩
        · obtain ⟨p1, p2, p3⟩ := fpQ_yes (a := a) pk
          have HP12 : Hid (frmV fx fy fr fd fs = true ∧ amount dn = true) := Lib.hid ⟨p1, p2⟩
          have HR2 : Hid (canon .f32 r = fpL fx fy fr fd fs dn a l a.length k) := Lib.hid (by rw [HR.out, p3])
          have hown := HG3.out
          clear pk p1 p2 p3
          unfold Gr at hown
          go_wp2_with (first
            | (at_builtin; refine wpList_append_own _ rfl _ _ 32 rfl w1.heap.size 22 i0 (.float .f32 0) 1 4 Try.underlying32 hi hz0 hz1 hz2 rfl (by decide) _ _ _ rfl (hown.alloc _) ⟨_, 0, none⟩ 1 1 [.float .f32 r] rfl rfl ?c1 ?c2 ?c3 ?c4 ?c5 ?_)
            | fail)
          case c1 =>
            intro j u hj
            match j, hj with
            | 0, hj => simp at hj; subst hj; simp [Addr.add]
          case c2 => intro u hu; simp at hu; subst hu; rfl
          case c3 => have := HL.out; unfold maxLen; omega
          case c4 => have := HL.out; omega
          case c5 => have := HB3.out.size; simp; omega
          · intro v' w4 hown' hgrow _
            obtain ⟨g2, b2⟩ := Gr.next HG3.out HB3.out (Nat.le_refl _) hown' hgrow
            have HG4 := Lib.hid g2
            have HB4 := Lib.hid b2
            have HQ4 : Hid (∀ j, j < k + 1 → canon .f32 ((ys ++ [r]).getD j 0) = fpL fx fy fr fd fs dn a l a.length j) := Lib.hid (fun j hj => by
              rw [getD_snoc _ _ _ (by rw [HL.out]; exact hj), HL.out]
              split
              · rename_i e; rw [HR2.out, e]
              · exact HQ.out j (by omega))
            have HL4 : Hid ((ys ++ [r]).length = k + 1) := Lib.hid (by simp [HL.out])
            clear g2 b2 hown hown' hgrow
            go_wp2
            go_roundw
            case rel => exact ⟨k + 1, _, by omega, by go_num, HG4, HL4, HQ4, Lib.hid (fun _ => HP12.out), HB4⟩
            case measure => simp [intOf]; omega
      · have hkk : k = a.length := by omega
        subst hkk
        obtain ⟨h1, h2⟩ := HC.out HQ1.out
        have HO : Hid (fpO fx fy fr fd fs dn a l = fin .f32 (fpS fx fy fr fd fs dn a l a.length a.length)) := Lib.hid (by unfold fpO; rw [HV.out, h1, h2]; rfl)
        obtain ⟨A', cap', b', rfl, ho⟩ := HG.out.own
        have HF := Lib.hid ho.fl
        have HSU := Lib.hid (sumK_fp (fx := fx) (fy := fy) (fr := fr) (fd := fd) (fs := fs) (dn := dn) (a := a) (l := l) HQ.out a.length (Nat.le_refl _))
        have H256 : Hid (ys.length ≤ 256) := Lib.hid (by rw [HL.out]; have := HQ2.out; omega)
        clear ho h1 h2
        go_wp2_with fail
        refine (i_sumOfPowers A' cap' ys true _ HF.out H256.out).mono ?_
        rintro e w3 ⟨r, rfl, hr, b3⟩
        have HR := Lib.hid hr
        have B3 : Hid (Below w.heap.size w w3) := Lib.hid (below_of (below_of B1.out B1.out.size HBR.out) (below_of B1.out B1.out.size HBR.out).size b3)
        clear hr b3
        go_wp2
        refine bodyPost_ret (results_tmp2 rfl _ _ _) rfl ?_
        have hr := HR.out
        rw [HL.out, HSU.out, if_pos trivial] at hr
        rw [HL.out, HSU.out]
        refine ⟨r, by rw [HO.out]; simp, ?_, B3.out⟩
        rw [hr]
        unfold fpR onlyN
        rw [HO.out]
        cases hf : fin .f32 (fpS fx fy fr fd fs dn a l a.length a.length)
        · simp [canon_zero]
        · simp only [if_true]
          exact (canon_fpS ..).symm
end Go.Proofs.Ytmadlabnhjhfiaa
namespace Go.Proofs.Ytmadlabnhjhfiaa
open Go Go.RowKit
set_option maxHeartbeats 8000000 in
set_option maxRecDepth 100000 in
theorem s_l06Farm (X Y : Option Addr) (cx cy : Nat) (fx fy : List Nat) (fr fd fs : Nat) (A L : Option Addr) (ca cl : Nat) (a l : List Nat) (B B' dn : Nat) (w : World) (h : Rs w X Y fx fy) (hn : FewS fx fy) (hr : Rs w A L a l) (hnr : FewS a l) (hk : BlkL w B [.slice X fx.length cx, .slice Y fy.length cy, .float .f32 fr, .float .f32 fd, .float .f32 fs]) (hk' : BlkL w B' [.slice A a.length ca, .slice L l.length cl]) (hv : frmV fx fy fr fd fs = true) (hrv : rosV a l = true) :
    Calls Try.prog 116 #[.pointer (some ⟨B, 0, none⟩), .pointer (some ⟨B', 0, none⟩), .float .f32 dn] w fun e w' => ∃ r, e = .returned (.float .f32 r) ∧ canon .f32 r = fpS fx fy fr fd fs dn a l a.length a.length ∧ Below w.heap.size w w' := by
  have HP := Lib.hid h; clear h
  have HNF := Lib.hid hn; clear hn
  obtain ⟨q1, q2, q3⟩ := rosV_sized hrv
  have HAM := Lib.hid (amts_at (rosV_amts hrv).2)
  have HV := Lib.hid hv
  clear hv hrv hnr
  have HK := Lib.hid hk; clear hk
  obtain ⟨ba, oa, rfl, -, -⟩ := hr.1.at_ (k := 0) (by omega)
  obtain ⟨bl, ol, rfl, -, -⟩ := hr.2.at_ (k := 0) (by omega)
  have HRS := Lib.hid hr; clear hr
  have HKR := Lib.hid hk'; clear hk'
  have HQ1 := Lib.hid q1
  have HQ3 := Lib.hid q3
  clear q1 q3
  have t0 := (HKR.out.2 0 _ rfl).1
  go_enter Try.func116, Try.ntmps116
  go_wp2
  clear t0
  go_loopw [8, 9] (fun s i wr => ∃ (k r : Nat), k ≤ a.length ∧ s = .float .f32 r ∧ i = .int .i64 k ∧ Hid (canon .f32 r = fpS fx fy fr fd fs dn a l a.length k) ∧ Hid (Below w.heap.size w wr)) (fun _ i _ => a.length - (intOf i).toNat)
  case atStart => exact ⟨0, 0, Nat.zero_le _, rfl, rfl, Lib.hid canon_zero, Lib.hid (Below.refl _ _)⟩
  case round =>
    obtain ⟨k, r0, hk, rfl, rfl, HS, HBR⟩ := hrel
    by_cases hlt : k < a.length
    · have hltl : k < l.length := by rw [HQ3.out]; exact hlt
      obtain ⟨ba', oa', e1, hba0, hca⟩ := HRS.out.1.at_ hlt
      obtain ⟨bl', ol', e2, hbl0, hcl⟩ := HRS.out.2.at_ hltl
      simp only [Option.some.injEq, Addr.mk.injEq] at e1 e2
      obtain ⟨rfl, rfl, -⟩ := e1
      obtain ⟨rfl, rfl, -⟩ := e2
      have HEQ : Hid (fop .add .f32 (fpS fx fy fr fd fs dn a l a.length k) (fop .mul .f32 (canon .f32 (a.getD k 0)) (sumK (pifL fx fy fr fd fs (fpT k a.length) (l.getD k 0) dn) fx.length)) = fpS fx fy fr fd fs dn a l a.length (k + 1)) := Lib.hid rfl
      have HSO : Hid (sfwO fx fy fr fd fs (fpT k a.length) (l.getD k 0) = true) := Lib.hid (sfwO_yes HV.out (fpT_fin hlt q2).1 (HAM.out k hltl))
      obtain ⟨s1, s2⟩ := fpT_sure hlt q2
      obtain ⟨x, hx⟩ : ∃ x, x = l.getD k 0 := ⟨_, rfl⟩
      obtain ⟨y, hy⟩ : ∃ y, y = a.getD k 0 := ⟨_, rfl⟩
      rw [← hx] at hcl HSO HEQ
      rw [← hy] at hca HEQ
      clear hx hy
      have HXC : Hid (wr.cell? ⟨bl, ol + k, none⟩ = some (.float .f32 x)) := Lib.hid (by rw [HBR.out.cell (p := ⟨bl, ol + k, none⟩) hbl0]; exact hcl)
      have HYC : Hid (wr.cell? ⟨ba, oa + k, none⟩ = some (.float .f32 y)) := Lib.hid (by rw [HBR.out.cell (p := ⟨ba, oa + k, none⟩) hba0]; exact hca)
      have hba : ba < wr.heap.size := Nat.lt_of_lt_of_le hba0 HBR.out.size
      have hbl : bl < wr.heap.size := Nat.lt_of_lt_of_le hbl0 HBR.out.size
      clear hca hcl hba0 hbl0
      go_upto_region 7 with fail
      clear s1 s2
      refine wp_region_inv4 (fun iq wv v => match iq with
        | 0 => ∃ r, v = .float .f32 r ∧ canon .f32 r = fpS fx fy fr fd fs dn a l a.length k
        | 1 => v = .pointer (some ⟨B', 0, none⟩)
        | 2 => v = .pointer (some ⟨B', 0, none⟩)
        | 3 => v = .pointer (some ⟨B', 0, none⟩)
        | 4 => v = .slice (some ⟨ba, oa, none⟩) a.length ca
        | 5 => v = .int .i64 k
        | 6 => v = .pointer (some ⟨ba, oa + k, none⟩)
        | 7 => v = .float .f32 y
        | 8 => v = .pointer (some ⟨B, 0, none⟩)
        | 9 => v = .float .f32 (fpT k a.length)
        | 10 => v = .pointer (some ⟨B', 0, none⟩)
        | 11 => v = .pointer (some ⟨B', 0, none⟩)
        | 12 => v = .pointer (some ⟨B', 1, none⟩)
        | 13 => v = .slice (some ⟨bl, ol, none⟩) l.length cl
        | 14 => v = .int .i64 k
        | 15 => v = .pointer (some ⟨bl, ol + k, none⟩)
        | 16 => v = .float .f32 x
        | 17 => v = .float .f32 dn
        | 18 => ∃ r, v = .float .f32 r ∧ canon .f32 r = sumK (pifL fx fy fr fd fs (fpT k a.length) x dn) fx.length
        | 19 => ∃ r, v = .float .f32 r ∧ canon .f32 r = fop .mul .f32 (canon .f32 y) (sumK (pifL fx fy fr fd fs (fpT k a.length) x dn) fx.length)
        | 20 => ∃ r, v = .float .f32 r ∧ canon .f32 r = fop .add .f32 (fpS fx fy fr fd fs dn a l a.length k) (fop .mul .f32 (canon .f32 y) (sumK (pifL fx fy fr fd fs (fpT k a.length) x dn) fx.length))
        | 21 => ∃ r, v = .float .f32 r ∧ canon .f32 r = fop .add .f32 (fpS fx fy fr fd fs dn a l a.length k) (fop .mul .f32 (canon .f32 y) (sumK (pifL fx fy fr fd fs (fpT k a.length) x dn) fx.length))
        | _ => False) (fun _ ww => Below wr.heap.size wr ww) (fun w w' => Below w.heap.size w w') ?hmono (by kernel_rfl) (by kernel_rfl) ((Below.refl _ _).drew) ?hop ?hend
      case hmono =>
        intro i wa wb v hR hV
        rcases i with _ | _ | _ | _ | _ | _ | _ | _ | _ | _ | _ | _ | _ | _ | _ | _ | _ | _ | _ | _ | _ | _ | i
        · exact hV
        · exact hV
        · exact hV
        · exact hV
        · exact hV
        · exact hV
        · exact hV
        · exact hV
        · exact hV
        · exact hV
        · exact hV
        · exact hV
        · exact hV
        · exact hV
        · exact hV
        · exact hV
        · exact hV
        · exact hV
        · exact hV
        · exact hV
        · exact hV
        · exact hV
        · exact hV
      case hop =>
        intro q o hq listed act w3 hI hnot hcl hall
        have hB := hI.cls
        have n0 := ((HKR.out.below (below_of HBR.out HBR.out.size hB)).2 0 _ rfl).1
        have n1 := ((HKR.out.below (below_of HBR.out HBR.out.size hB)).2 1 _ rfl).1
        have mx : w3.cell? ⟨bl, ol + k, none⟩ = some (.float .f32 x) := by rw [hB.cell (p := ⟨bl, ol + k, none⟩) hbl]; exact HXC.out
        have my : w3.cell? ⟨ba, oa + k, none⟩ = some (.float .f32 y) := by rw [hB.cell (p := ⟨ba, oa + k, none⟩) hba]; exact HYC.out
        rcases q with _ | _ | _ | _ | _ | _ | _ | _ | _ | _ | _ | _ | _ | _ | _ | _ | _ | _ | _ | _ | _ | _ | q
        · simp at hq; subst hq
          have hnl : listed.getD 21 false = false := hcl.not (j := 21) (i := 0) (e := ⟨0, .phase⟩) rfl (by simp) rfl rfl hnot
          obtain ⟨x8, g8, hx8⟩ : ∃ x, act.tmps[8]?.getD undef = .float .f32 x ∧ canon .f32 x = fpS fx fy fr fd fs dn a l a.length k := ⟨_, hI.keptN 8 21 (by kernel_rfl) hnl, HS.out⟩
          clear hI hall hnot hcl
          refine .inl ⟨wanted_none rfl, ?_⟩
          unfold Oper.wp
          go_simp
          first | exact ⟨_, rfl, Below.refl _ _, ⟨_, rfl, hx8⟩⟩ | exact ⟨_, rfl, Below.refl _ _, ⟨_, rfl, hx8⟩, hB⟩
        · simp at hq; subst hq
          have g1 : act.tmps[1]?.getD undef = .pointer (some ⟨B', 0, none⟩) := hI.kept 1 (by kernel_rfl)
          clear hI hall hnot hcl
          refine .inl ⟨wanted_none rfl, ?_⟩
          unfold Oper.wp
          go_simp
          all_goals first | exact ⟨_, rfl, Below.refl _ _, rfl, hB⟩ | exact ⟨Below.refl _ _, hB⟩ | exact Below.refl _ _
        · simp at hq; subst hq
          have g27 : act.tmps[27]?.getD undef = .pointer (some ⟨B', 0, none⟩) := hI.has 1 27 rfl (hall ⟨1, .data⟩ (by simp) rfl)
          clear hI hall hnot hcl
          refine .inl ⟨wanted_none rfl, ?_⟩
          unfold Oper.wp
          go_simp
          all_goals first | exact ⟨_, rfl, Below.refl _ _, rfl, hB⟩ | exact ⟨Below.refl _ _, hB⟩ | exact Below.refl _ _
        · simp at hq; subst hq
          have g28 : act.tmps[28]?.getD undef = .pointer (some ⟨B', 0, none⟩) := hI.has 2 28 rfl (hall ⟨2, .data⟩ (by simp) rfl)
          clear hI hall hnot hcl
          refine .inl ⟨wanted_none rfl, ?_⟩
          unfold Oper.wp
          go_simp
          all_goals first | exact ⟨_, rfl, Below.refl _ _, rfl, hB⟩ | exact ⟨Below.refl _ _, hB⟩ | exact Below.refl _ _
        · simp at hq; subst hq
          have g29 : act.tmps[29]?.getD undef = .pointer (some ⟨B', 0, none⟩) := hI.has 3 29 rfl (hall ⟨3, .data⟩ (by simp) rfl)
          clear hI hall hnot hcl
          refine .inl ⟨wanted_none rfl, ?_⟩
          unfold Oper.wp
          go_simp
          all_goals first | exact ⟨_, rfl, Below.refl _ _, rfl, hB⟩ | exact ⟨Below.refl _ _, hB⟩ | exact Below.refl _ _
        · simp at hq; subst hq
          have g9 : act.tmps[9]?.getD undef = .int .i64 k := hI.kept 9 (by kernel_rfl)
          clear hI hall hnot hcl
          refine .inl ⟨wanted_none rfl, ?_⟩
          unfold Oper.wp
          go_simp
          all_goals first | exact ⟨_, rfl, Below.refl _ _, rfl, hB⟩ | exact ⟨Below.refl _ _, hB⟩ | exact Below.refl _ _
        · simp at hq; subst hq
          have g30 : act.tmps[30]?.getD undef = .slice (some ⟨ba, oa, none⟩) a.length ca := hI.has 4 30 rfl (hall ⟨4, .data⟩ (by simp) rfl)
          have g31 : act.tmps[31]?.getD undef = .int .i64 k := hI.has 5 31 rfl (hall ⟨5, .data⟩ (by simp) rfl)
          clear hI hall hnot hcl
          refine .inl ⟨wanted_none rfl, ?_⟩
          unfold Oper.wp
          go_simp
          all_goals first | exact ⟨_, rfl, Below.refl _ _, rfl, hB⟩ | exact ⟨Below.refl _ _, hB⟩ | exact Below.refl _ _
        · simp at hq; subst hq
          have g32 : act.tmps[32]?.getD undef = .pointer (some ⟨ba, oa + k, none⟩) := hI.has 6 32 rfl (hall ⟨6, .data⟩ (by simp) rfl)
          clear hI hall hnot hcl
          refine .inl ⟨wanted_none rfl, ?_⟩
          unfold Oper.wp
          go_simp
          all_goals first | exact ⟨_, rfl, Below.refl _ _, rfl, hB⟩ | exact ⟨Below.refl _ _, hB⟩ | exact Below.refl _ _
        · simp at hq; subst hq
          have g0 : act.tmps[0]?.getD undef = .pointer (some ⟨B, 0, none⟩) := hI.kept 0 (by kernel_rfl)
          clear hI hall hnot hcl
          refine .inl ⟨wanted_none rfl, ?_⟩
          unfold Oper.wp
          go_simp
          all_goals first | exact ⟨_, rfl, Below.refl _ _, rfl, hB⟩ | exact ⟨Below.refl _ _, hB⟩ | exact Below.refl _ _
        · simp at hq; subst hq
          have g10 : act.tmps[10]?.getD undef = .float .f32 (fpT k a.length) := hI.kept 10 (by kernel_rfl)
          clear hI hall hnot hcl
          refine .inl ⟨wanted_none rfl, ?_⟩
          unfold Oper.wp
          go_simp
          all_goals first | exact ⟨_, rfl, Below.refl _ _, rfl, hB⟩ | exact ⟨Below.refl _ _, hB⟩ | exact Below.refl _ _
        · simp at hq; subst hq
          have g1 : act.tmps[1]?.getD undef = .pointer (some ⟨B', 0, none⟩) := hI.kept 1 (by kernel_rfl)
          clear hI hall hnot hcl
          refine .inl ⟨wanted_none rfl, ?_⟩
          unfold Oper.wp
          go_simp
          all_goals first | exact ⟨_, rfl, Below.refl _ _, rfl, hB⟩ | exact ⟨Below.refl _ _, hB⟩ | exact Below.refl _ _
        · simp at hq; subst hq
          have g36 : act.tmps[36]?.getD undef = .pointer (some ⟨B', 0, none⟩) := hI.has 10 36 rfl (hall ⟨10, .data⟩ (by simp) rfl)
          clear hI hall hnot hcl
          refine .inl ⟨wanted_none rfl, ?_⟩
          unfold Oper.wp
          go_simp
          all_goals first | exact ⟨_, rfl, Below.refl _ _, rfl, hB⟩ | exact ⟨Below.refl _ _, hB⟩ | exact Below.refl _ _
        · simp at hq; subst hq
          have g37 : act.tmps[37]?.getD undef = .pointer (some ⟨B', 0, none⟩) := hI.has 11 37 rfl (hall ⟨11, .data⟩ (by simp) rfl)
          clear hI hall hnot hcl
          refine .inl ⟨wanted_none rfl, ?_⟩
          unfold Oper.wp
          go_simp
          all_goals first | exact ⟨_, rfl, Below.refl _ _, rfl, hB⟩ | exact ⟨Below.refl _ _, hB⟩ | exact Below.refl _ _
        · simp at hq; subst hq
          have g38 : act.tmps[38]?.getD undef = .pointer (some ⟨B', 1, none⟩) := hI.has 12 38 rfl (hall ⟨12, .data⟩ (by simp) rfl)
          clear hI hall hnot hcl
          refine .inl ⟨wanted_none rfl, ?_⟩
          unfold Oper.wp
          go_simp
          all_goals first | exact ⟨_, rfl, Below.refl _ _, rfl, hB⟩ | exact ⟨Below.refl _ _, hB⟩ | exact Below.refl _ _
        · simp at hq; subst hq
          have g9 : act.tmps[9]?.getD undef = .int .i64 k := hI.kept 9 (by kernel_rfl)
          clear hI hall hnot hcl
          refine .inl ⟨wanted_none rfl, ?_⟩
          unfold Oper.wp
          go_simp
          all_goals first | exact ⟨_, rfl, Below.refl _ _, rfl, hB⟩ | exact ⟨Below.refl _ _, hB⟩ | exact Below.refl _ _
        · simp at hq; subst hq
          have g39 : act.tmps[39]?.getD undef = .slice (some ⟨bl, ol, none⟩) l.length cl := hI.has 13 39 rfl (hall ⟨13, .data⟩ (by simp) rfl)
          have g40 : act.tmps[40]?.getD undef = .int .i64 k := hI.has 14 40 rfl (hall ⟨14, .data⟩ (by simp) rfl)
          clear hI hall hnot hcl
          refine .inl ⟨wanted_none rfl, ?_⟩
          unfold Oper.wp
          go_simp
          all_goals first | exact ⟨_, rfl, Below.refl _ _, rfl, hB⟩ | exact ⟨Below.refl _ _, hB⟩ | exact Below.refl _ _
        · simp at hq; subst hq
          have g41 : act.tmps[41]?.getD undef = .pointer (some ⟨bl, ol + k, none⟩) := hI.has 15 41 rfl (hall ⟨15, .data⟩ (by simp) rfl)
          clear hI hall hnot hcl
          refine .inl ⟨wanted_none rfl, ?_⟩
          unfold Oper.wp
          go_simp
          all_goals first | exact ⟨_, rfl, Below.refl _ _, rfl, hB⟩ | exact ⟨Below.refl _ _, hB⟩ | exact Below.refl _ _
        · simp at hq; subst hq
          have g2 : act.tmps[2]?.getD undef = .float .f32 dn := hI.kept 2 (by kernel_rfl)
          clear hI hall hnot hcl
          refine .inl ⟨wanted_none rfl, ?_⟩
          unfold Oper.wp
          go_simp
          all_goals first | exact ⟨_, rfl, Below.refl _ _, rfl, hB⟩ | exact ⟨Below.refl _ _, hB⟩ | exact Below.refl _ _
        · simp at hq; subst hq
          have g34 : act.tmps[34]?.getD undef = .pointer (some ⟨B, 0, none⟩) := hI.has 8 34 rfl (hall ⟨8, .data⟩ (by simp) rfl)
          have g35 : act.tmps[35]?.getD undef = .float .f32 (fpT k a.length) := hI.has 9 35 rfl (hall ⟨9, .data⟩ (by simp) rfl)
          have g42 : act.tmps[42]?.getD undef = .float .f32 x := hI.has 16 42 rfl (hall ⟨16, .data⟩ (by simp) rfl)
          have g43 : act.tmps[43]?.getD undef = .float .f32 dn := hI.has 17 43 rfl (hall ⟨17, .data⟩ (by simp) rfl)
          clear hI hall hnot hcl
          refine .inl ⟨wanted_none rfl, ?_⟩
          unfold Oper.wp
          go_simp
          refine (s_l06Power X Y cx cy fx fy fr fd fs B (fpT k a.length) x dn _ ⟨HP.out.1.below (below_of HBR.out HBR.out.size hB), HP.out.2.below (below_of HBR.out HBR.out.size hB)⟩ HNF.out (HK.out.below (below_of HBR.out HBR.out.size hB)) HSO.out).mono ?_
          rintro e w4 ⟨r, rfl, hr4, b4⟩
          exact ⟨_, rfl, b4, ⟨r, rfl, hr4⟩, below_of hB hB.size b4⟩
        · simp at hq; subst hq
          have g33 : act.tmps[33]?.getD undef = .float .f32 y := hI.has 7 33 rfl (hall ⟨7, .data⟩ (by simp) rfl)
          obtain ⟨r18, g44, h18a⟩ := hI.has 18 44 rfl (hall ⟨18, .data⟩ (by simp) rfl)
          clear hI hall hnot hcl
          refine .inl ⟨wanted_none rfl, ?_⟩
          unfold Oper.wp
          go_simp
          first | exact ⟨_, rfl, below_draws (Below.refl _ _) _, ⟨_, rfl, canonF rfl h18a⟩, below_draws hB _⟩ | exact ⟨_, rfl, below_draws (Below.refl _ _) _, ⟨_, rfl, canonF rfl h18a⟩⟩
        · simp at hq; subst hq
          obtain ⟨r0, g26, h0a⟩ := hI.has 0 26 rfl (hall ⟨0, .data⟩ (by simp) rfl)
          obtain ⟨r19, g45, h19a⟩ := hI.has 19 45 rfl (hall ⟨19, .data⟩ (by simp) rfl)
          clear hI hall hnot hcl
          refine .inl ⟨wanted_none rfl, ?_⟩
          unfold Oper.wp
          go_simp
          first | exact ⟨_, rfl, below_draws (Below.refl _ _) _, ⟨_, rfl, canonF h0a h19a⟩, below_draws hB _⟩ | exact ⟨_, rfl, below_draws (Below.refl _ _) _, ⟨_, rfl, canonF h0a h19a⟩⟩
        · simp at hq; subst hq
          obtain ⟨r20, g46, h20a⟩ := hI.has 20 46 rfl (hall ⟨20, .data⟩ (by simp) rfl)
          clear hI hall hnot hcl
          refine .inl ⟨wanted_none rfl, ?_⟩
          unfold Oper.wp
          go_simp
          first | exact ⟨_, rfl, Below.refl _ _, ⟨_, rfl, h20a⟩⟩ | exact ⟨_, rfl, Below.refl _ _, ⟨_, rfl, h20a⟩, hB⟩
        · simp at hq
      case hend =>
        intro listed act w3 hI hall
        have hB := hI.cls
        have n0 := ((HKR.out.below (below_of HBR.out HBR.out.size hB)).2 0 _ rfl).1
        have n1 := ((HKR.out.below (below_of HBR.out HBR.out.size hB)).2 1 _ rfl).1
        have mx : w3.cell? ⟨bl, ol + k, none⟩ = some (.float .f32 x) := by rw [hB.cell (p := ⟨bl, ol + k, none⟩) hbl]; exact HXC.out
        have my : w3.cell? ⟨ba, oa + k, none⟩ = some (.float .f32 y) := by rw [hB.cell (p := ⟨ba, oa + k, none⟩) hba]; exact HYC.out
        obtain ⟨rp, g8, hrp⟩ := hI.has 21 8 rfl (hall 21 (by decide))
        have g0 := hI.kept 0 (by kernel_rfl)
        conv at g0 => rhs; whnf
        have g1 := hI.kept 1 (by kernel_rfl)
        conv at g1 => rhs; whnf
        have g2 := hI.kept 2 (by kernel_rfl)
        conv at g2 => rhs; whnf
        have g3 : act.tmps[3]?.getD undef = undef := hI.kept 3 (by kernel_rfl)
        have g4 : act.tmps[4]?.getD undef = undef := hI.kept 4 (by kernel_rfl)
        have g5 : act.tmps[5]?.getD undef = undef := hI.kept 5 (by kernel_rfl)
        have g6 := hI.kept 6 (by kernel_rfl)
        conv at g6 => rhs; whnf
        have g7 := hI.kept 7 (by kernel_rfl)
        conv at g7 => rhs; whnf
        have g11 := hI.kept 11 (by kernel_rfl)
        conv at g11 => rhs; whnf
        have g12 := hI.kept 12 (by kernel_rfl)
        conv at g12 => rhs; whnf
        have g13 := hI.kept 13 (by kernel_rfl)
        conv at g13 => rhs; whnf
        have g14 := hI.kept 14 (by kernel_rfl)
        conv at g14 => rhs; whnf
        have g15 := hI.kept 15 (by kernel_rfl)
        conv at g15 => rhs; whnf
        have g47 : act.tmps[47]?.getD undef = undef := hI.kept 47 (by kernel_rfl)
        have g9 := hI.kept 9 (by kernel_rfl)
        conv at g9 => rhs; whnf
        have hsz : act.tmps.size = 48 := hI.size.trans (by kernel_rfl)
        have hd := hI.defers
        have HBE := Lib.hid hB
        have HRP := Lib.hid hrp
        clear hI hall hB hrp mx my n0 n1
        obtain ⟨tt, dd⟩ := act
        simp only at g0 g1 g2 g3 g4 g5 g6 g7 g8 g9 g11 g12 g13 g14 g15 g47 hsz hd
        subst hd
        have hl : tt = #[tt[0]?.getD undef, tt[1]?.getD undef, tt[2]?.getD undef, tt[3]?.getD undef, tt[4]?.getD undef, tt[5]?.getD undef, tt[6]?.getD undef, tt[7]?.getD undef, tt[8]?.getD undef, tt[9]?.getD undef, tt[10]?.getD undef, tt[11]?.getD undef, tt[12]?.getD undef, tt[13]?.getD undef, tt[14]?.getD undef, tt[15]?.getD undef, tt[16]?.getD undef, tt[17]?.getD undef, tt[18]?.getD undef, tt[19]?.getD undef, tt[20]?.getD undef, tt[21]?.getD undef, tt[22]?.getD undef, tt[23]?.getD undef, tt[24]?.getD undef, tt[25]?.getD undef, tt[26]?.getD undef, tt[27]?.getD undef, tt[28]?.getD undef, tt[29]?.getD undef, tt[30]?.getD undef, tt[31]?.getD undef, tt[32]?.getD undef, tt[33]?.getD undef, tt[34]?.getD undef, tt[35]?.getD undef, tt[36]?.getD undef, tt[37]?.getD undef, tt[38]?.getD undef, tt[39]?.getD undef, tt[40]?.getD undef, tt[41]?.getD undef, tt[42]?.getD undef, tt[43]?.getD undef, tt[44]?.getD undef, tt[45]?.getD undef, tt[46]?.getD undef, tt[47]?.getD undef] := (arr_lit hsz).trans rfl
        rw [g0, g1, g2, g3, g4, g5, g6, g7, g8, g9, g11, g12, g13, g14, g15, g47] at hl
        clear g0 g1 g2 g3 g4 g5 g6 g7 g8 g9 g11 g12 g13 g14 g15 g47 hsz
        generalize tt[10]?.getD undef = y10 at hl
        generalize tt[16]?.getD undef = y16 at hl
        generalize tt[17]?.getD undef = y17 at hl
        generalize tt[18]?.getD undef = y18 at hl
        generalize tt[19]?.getD undef = y19 at hl
        generalize tt[20]?.getD undef = y20 at hl
        generalize tt[21]?.getD undef = y21 at hl
        generalize tt[22]?.getD undef = y22 at hl
        generalize tt[23]?.getD undef = y23 at hl
        generalize tt[24]?.getD undef = y24 at hl
        generalize tt[25]?.getD undef = y25 at hl
        generalize tt[26]?.getD undef = y26 at hl
        generalize tt[27]?.getD undef = y27 at hl
        generalize tt[28]?.getD undef = y28 at hl
        generalize tt[29]?.getD undef = y29 at hl
        generalize tt[30]?.getD undef = y30 at hl
        generalize tt[31]?.getD undef = y31 at hl
        generalize tt[32]?.getD undef = y32 at hl
        generalize tt[33]?.getD undef = y33 at hl
        generalize tt[34]?.getD undef = y34 at hl
        generalize tt[35]?.getD undef = y35 at hl
        generalize tt[36]?.getD undef = y36 at hl
        generalize tt[37]?.getD undef = y37 at hl
        generalize tt[38]?.getD undef = y38 at hl
        generalize tt[39]?.getD undef = y39 at hl
        generalize tt[40]?.getD undef = y40 at hl
        generalize tt[41]?.getD undef = y41 at hl
        generalize tt[42]?.getD undef = y42 at hl
        generalize tt[43]?.getD undef = y43 at hl
        generalize tt[44]?.getD undef = y44 at hl
        generalize tt[45]?.getD undef = y45 at hl
        generalize tt[46]?.getD undef = y46 at hl
        subst hl
        have HB3 : Hid (Below w.heap.size w w3) := Lib.hid (below_of HBR.out HBR.out.size HBE.out)
        have HS3 : Hid (canon .f32 rp = fpS fx fy fr fd fs dn a l a.length (k + 1)) := Lib.hid (by rw [HRP.out, HEQ.out])
        go_wp2
        go_roundw
        case rel => exact ⟨k + 1, rp, by omega, rfl, by go_num, HS3, HB3⟩
        case measure => simp [intOf]; omega
    · have hkk : k = a.length := by omega
      subst hkk
      go_wp2
      go_ret
      exact ⟨r0, rfl, HS.out, HBR.out⟩
set_option maxHeartbeats 4000000 in
theorem s_l06Both (X Y : Option Addr) (cx cy : Nat) (fx fy : List Nat) (fr fd fs : Nat) (A L : Option Addr) (ca cl : Nat) (a l : List Nat) (B B' : Nat) (w : World) (h : Rs w X Y fx fy) (hn : FewS fx fy) (hr : Rs w A L a l) (hnr : FewS a l) (hk : BlkL w B [.slice X fx.length cx, .slice Y fy.length cy, .float .f32 fr, .float .f32 fd, .float .f32 fs]) (hk' : BlkL w B' [.slice A a.length ca, .slice L l.length cl]) :
    Calls Try.prog 115 #[.pointer (some ⟨B, 0, none⟩), .pointer (some ⟨B', 0, none⟩)] w fun e w' => e = .returned (.bool (frmV fx fy fr fd fs && rosV a l)) ∧ ∃ n, w' = w.drewN n := by
  have HX := Lib.hid (s_l06Is X Y cx cy fx fy fr fd fs B w h hn hk)
  have HY := Lib.hid (fun n => s_l04Rose A L ca cl a l B' (w.drewN n) (hr.draws n) hnr (hk'.draws n))
  clear h hn hk hr hnr hk'
  cases hv : frmV fx fy fr fd fs
  · rw [hv] at HX
    clear hv
    go_enter Try.func115, Try.ntmps115
    go_wp2_with fail
    refine HX.out.mono ?_
    rintro e w1 ⟨rfl, n1, rfl⟩
    go_wp2
    go_ret
    exact ⟨rfl, _, rfl⟩
  · rw [hv] at HX
    clear hv
    go_enter Try.func115, Try.ntmps115
    go_wp2_with fail
    refine HX.out.mono ?_
    rintro e w1 ⟨rfl, n1, rfl⟩
    go_wp2_with fail
    refine (HY.out _).mono ?_
    rintro e w1 ⟨rfl, n2, rfl⟩
    go_wp2
    go_ret
    exact ⟨by simp, _, rfl⟩
set_option maxHeartbeats 8000000 in
theorem s_FarmPower (X Y : Option Addr) (cx cy : Nat) (fx fy : List Nat) (fr fd fs : Nat) (A L : Option Addr) (ca cl : Nat) (a l : List Nat) (dn : Nat) (w : World) (h : Rs w X Y fx fy) (hn : FewS fx fy) (hr : Rs w A L a l) (hnr : FewS a l) :
    Calls Try.prog 38 #[.agg #[.slice X fx.length cx, .slice Y fy.length cy, .float .f32 fr, .float .f32 fd, .float .f32 fs], .agg #[.slice A a.length ca, .slice L l.length cl], .float .f32 dn] w fun e w' => ∃ r, e = .returned (.tuple #[.float .f32 r, .bool (fpO fx fy fr fd fs dn a l)]) ∧ canon .f32 r = canon .f32 (fpR fx fy fr fd fs dn a l) ∧ Below w.heap.size w w' := by
  have HP := Lib.hid h; clear h
  have HNF := Lib.hid hn; clear hn
  have HRS := Lib.hid hr; clear hr
  have HNR := Lib.hid hnr; clear hnr
  obtain ⟨w0, hw0⟩ : ∃ z, z = (w.alloc (.cells #[.slice X fx.length cx, .slice Y fy.length cy, .float .f32 fr, .float .f32 fd, .float .f32 fs] 50)).alloc (.cells #[.slice A a.length ca, .slice L l.length cl] 34) := ⟨_, rfl⟩
  have K0 : Hid (BlkL w0 w.heap.size [.slice X fx.length cx, .slice Y fy.length cy, .float .f32 fr, .float .f32 fd, .float .f32 fs]) := Lib.hid (by rw [hw0]; exact (blkL_at w #[.slice X fx.length cx, .slice Y fy.length cy, .float .f32 fr, .float .f32 fd, .float .f32 fs] _ rfl).alloc _)
  have S0 : Hid (BlkL w0 (w.heap.size + 1) [.slice A a.length ca, .slice L l.length cl]) := Lib.hid (by rw [hw0]; exact blkL_at (w.alloc _) #[.slice A a.length ca, .slice L l.length cl] _ (by simp))
  have B0 : Hid (Below w.heap.size w w0) := Lib.hid (by rw [hw0]; exact ((Below.refl _ _).alloc (Nat.le_refl _) _).alloc (by simp) _)
  go_enter Try.func38, Try.ntmps38
  go_upto_region 1 with fail
  rw [← hw0]
  clear hw0
  go_wp2_with fail
  refine (s_l06Both X Y cx cy fx fy fr fd fs A L ca cl a l w.heap.size (w.heap.size + 1) _ ⟨HP.out.1.below B0.out, HP.out.2.below B0.out⟩ HNF.out ⟨HRS.out.1.below B0.out, HRS.out.2.below B0.out⟩ HNR.out K0.out S0.out).mono ?_
  rintro e w1 ⟨rfl, n1, hw⟩
  have b1 : Below w0.heap.size w0 w1 := by rw [hw]; exact below_draws (Below.refl _ _) _
  clear hw
  have K1 := Lib.hid (K0.out.below b1)
  have S1 := Lib.hid (S0.out.below b1)
  have B1 : Hid (Below w.heap.size w w1) := Lib.hid (below_of B0.out B0.out.size b1)
  clear b1
  cases hv : frmV fx fy fr fd fs && rosV a l
  · have HN : Hid (fpO fx fy fr fd fs dn a l = false) := Lib.hid (by
      rw [Bool.and_eq_false_iff] at hv
      rcases hv with h | h
      · exact fpO_f h
      · exact fpO_r h)
    clear hv
    go_wp2
    refine bodyPost_ret (results_tmp2 rfl _ _ _) rfl ?_
    rw [fpR_no HN.out, HN.out]
    exact ⟨0, rfl, rfl, B1.out⟩
  · rw [Bool.and_eq_true] at hv
    have HV := Lib.hid hv
    clear hv
    go_wp2_with fail
    refine (s_l02Least _ _).mono ?_
    rintro e w2 ⟨n2, rfl, hw⟩
    have b2 : Below w1.heap.size w1 w2 := by rw [hw]; exact below_draws (Below.refl _ _) _
    clear hw
    have K2 := Lib.hid (K1.out.below b2)
    have S2 := Lib.hid (S1.out.below b2)
    have B2 : Hid (Below w.heap.size w w2) := Lib.hid (below_of B1.out B1.out.size b2)
    clear b2
    cases hd : amount dn
    · have HN : Hid (fpO fx fy fr fd fs dn a l = false) := Lib.hid (fpO_d hd)
      clear hd
      go_wp2
      refine bodyPost_ret (results_tmp2 rfl _ _ _) rfl ?_
      rw [fpR_no HN.out, HN.out]
      exact ⟨0, rfl, rfl, B2.out⟩
    · have HPO : Hid (fpO fx fy fr fd fs dn a l = fin .f32 (fpS fx fy fr fd fs dn a l a.length a.length)) := Lib.hid (by unfold fpO; rw [HV.out.1, HV.out.2, hd]; rfl)
      clear hd
      go_wp2_with fail
      refine (s_l06Farm X Y cx cy fx fy fr fd fs A L ca cl a l w.heap.size (w.heap.size + 1) dn _ ⟨HP.out.1.below B2.out, HP.out.2.below B2.out⟩ HNF.out ⟨HRS.out.1.below B2.out, HRS.out.2.below B2.out⟩ HNR.out K2.out S2.out HV.out.1 HV.out.2).mono ?_
      rintro e w3 ⟨r, rfl, hr, b3⟩
      have HR := Lib.hid hr
      have B3 : Hid (Below w.heap.size w w3) := Lib.hid (below_of B2.out B2.out.size b3)
      clear hr b3
      go_wp2_with fail
      refine (s_l02NumberC r _ _ HR.out).mono ?_
      rintro e w4 ⟨r2, n4, rfl, hr2, hw⟩
      have HR2 := Lib.hid hr2
      have B4 : Hid (Below w.heap.size w w4) := Lib.hid (by rw [hw]; exact below_draws B3.out _)
      clear hr2 hw
      go_wp2
      refine bodyPost_ret (results_tmp2 rfl _ _ _) rfl ?_
      refine ⟨r2, by rw [HPO.out]; rfl, ?_, B4.out⟩
      rw [HR2.out]
      unfold fpR onlyN
      rw [HPO.out]
      cases hf : fin .f32 (fpS fx fy fr fd fs dn a l a.length a.length)
      · simp [canon_zero]
      · simp only [if_true]
        exact (canon_fpS ..).symm
end Go.Proofs.Ytmadlabnhjhfiaa
namespace Go.Proofs.Ytmadlabnhjhfiaa
open Go Go.RowKit
def fsAll (fx fy : List Nat) (fr fd fs : Nat) (a l : List Nat) : Bool := fpO fx fy fr fd fs 1065353216 a l
def fsOne (fx fy : List Nat) (fr fd fs : Nat) (a l : List Nat) : Bool := fpO (fx.take 1) (fy.take 1) fr fd fs 1065353216 a l
def fsV (fx fy : List Nat) (fr fd fs : Nat) (a l : List Nat) : Nat := fop .quo .f32 (canon .f32 (fpR fx fy fr fd fs 1065353216 a l)) (fop .mul .f32 (canon .f32 (floatOfInt .f32 (fx.length : Int))) (canon .f32 (fpR (fx.take 1) (fy.take 1) fr fd fs 1065353216 a l)))
def fsO (fx fy : List Nat) (fr fd fs : Nat) (a l : List Nat) : Bool := fsAll fx fy fr fd fs a l && (fsOne fx fy fr fd fs a l && fin .f32 (fsV fx fy fr fd fs a l))
def fsR (fx fy : List Nat) (fr fd fs : Nat) (a l : List Nat) : Nat := if fsAll fx fy fr fd fs a l && fsOne fx fy fr fd fs a l then onlyN (fsV fx fy fr fd fs a l) else 0
theorem fs_noA {fx fy : List Nat} {fr fd fs : Nat} {a l : List Nat} (h : fsAll fx fy fr fd fs a l = false) : fsO fx fy fr fd fs a l = false ∧ fsR fx fy fr fd fs a l = 0 := ⟨by unfold fsO; rw [h]; rfl, by unfold fsR; rw [h]; rfl⟩
theorem fs_no1 {fx fy : List Nat} {fr fd fs : Nat} {a l : List Nat} (h : fsOne fx fy fr fd fs a l = false) : fsO fx fy fr fd fs a l = false ∧ fsR fx fy fr fd fs a l = 0 := ⟨by unfold fsO; rw [h]; simp, by unfold fsR; rw [h]; simp⟩
theorem fs_yes {fx fy : List Nat} {fr fd fs : Nat} {a l : List Nat} (h : fsAll fx fy fr fd fs a l = true) (h1 : fsOne fx fy fr fd fs a l = true) : fsO fx fy fr fd fs a l = fin .f32 (fsV fx fy fr fd fs a l) ∧ fsR fx fy fr fd fs a l = onlyN (fsV fx fy fr fd fs a l) := ⟨by unfold fsO; rw [h, h1]; rfl, by unfold fsR; rw [h, h1]; rfl⟩
theorem fpO_parts {fx fy : List Nat} {fr fd fs dn : Nat} {a l : List Nat} (h : fpO fx fy fr fd fs dn a l = true) : rosV a l = true ∧ frmV fx fy fr fd fs = true ∧ amount dn = true ∧ fin .f32 (fpS fx fy fr fd fs dn a l a.length a.length) = true := by
  unfold fpO at h
  simp only [Bool.and_eq_true] at h
  exact ⟨h.1, h.2.1, h.2.2.1, h.2.2.2⟩
theorem fpO_of {fx fy : List Nat} {fr fd fs dn : Nat} {a l : List Nat} (h1 : rosV a l = true) (h2 : frmV fx fy fr fd fs = true) (h3 : amount dn = true) : fpO fx fy fr fd fs dn a l = fin .f32 (fpS fx fy fr fd fs dn a l a.length a.length) := by
  unfold fpO; rw [h1, h2, h3]; rfl
theorem fpR_of {fx fy : List Nat} {fr fd fs dn : Nat} {a l : List Nat} (h : fpO fx fy fr fd fs dn a l = true) : fpR fx fy fr fd fs dn a l = fpS fx fy fr fd fs dn a l a.length a.length := by unfold fpR; rw [h]; rfl
theorem Fl.take1 {w : World} {A : Option Addr} {xs : List Nat} (h : Fl w A xs) (k : Nat) : Fl w A (xs.take k) := by
  rcases h with h | ⟨b, off, e, hlt, hc⟩
  · subst h; left; simp
  · refine .inr ⟨b, off, e, hlt, fun j hj => ?_⟩
    rw [List.length_take] at hj
    rw [hc j (by omega)]
    congr 2
    rw [List.getD_eq_getElem?_getD, List.getD_eq_getElem?_getD, List.getElem?_take, if_pos (by omega)]
theorem one_amount : amount 1065353216 = true := by decide +kernel
theorem fars_take {x : List Nat} (h : fars x x.length = true) (h1 : 1 ≤ x.length) : fars (x.take 1) (x.take 1).length = true := by
  cases x with
  | nil => simp at h1
  | cons y t =>
    have h2 : ∀ n, fars (y :: t) (n + 1) = true → fars [y] 1 = true := by
      intro n
      induction n with
      | zero => intro h; simpa [fars] using h
      | succ n ih => intro h; rw [fars, Bool.and_eq_true] at h; exact ih h.1
    exact h2 t.length (by simpa using h)
theorem frmV_take {fx fy : List Nat} {fr fd fs : Nat} (h : frmV fx fy fr fd fs = true) : frmV (fx.take 1) (fy.take 1) fr fd fs = true := by
  obtain ⟨h1, h2, h3⟩ := frmV_size h
  obtain ⟨g1, g2, g3⟩ := frmV_parts h
  rw [frmV_yes (by unfold sizedF; simp; omega), fars_take g1 h1, fars_take g2 (by omega), g3]
  rfl
set_option maxHeartbeats 8000000 in
set_option maxRecDepth 100000 in
theorem i_FarmShare (X Y : Option Addr) (cx cy : Nat) (fx fy : List Nat) (fr fd fs : Nat) (A L : Option Addr) (ca cl : Nat) (a l : List Nat) (w : World) (h : Rs w X Y fx fy) (hn : FewS fx fy) (hr : Rs w A L a l) (hnr : FewS a l) (hcx : fx.length ≤ cx) (hcy : fy.length ≤ cy) :
    Calls Try.prog 42 #[.agg #[.slice X fx.length cx, .slice Y fy.length cy, .float .f32 fr, .float .f32 fd, .float .f32 fs], .agg #[.slice A a.length ca, .slice L l.length cl]] w fun e w' => ∃ r, e = .returned (.tuple #[.float .f32 r, .bool (fsO fx fy fr fd fs a l)]) ∧ canon .f32 r = canon .f32 (fsR fx fy fr fd fs a l) ∧ Below w.heap.size w w' := by
  have HP := Lib.hid h; clear h
  have HNF := Lib.hid hn; clear hn
  have HRS := Lib.hid hr; clear hr
  have HNR := Lib.hid hnr; clear hnr
  have HCX := Lib.hid hcx; clear hcx
  have HCY := Lib.hid hcy; clear hcy
  obtain ⟨w0, hw0⟩ : ∃ z, z = (w.alloc (.cells #[.slice X fx.length cx, .slice Y fy.length cy, .float .f32 fr, .float .f32 fd, .float .f32 fs] 50)).alloc (.cells #[.slice A a.length ca, .slice L l.length cl] 34) := ⟨_, rfl⟩
  have K0 : Hid (BlkL w0 w.heap.size [.slice X fx.length cx, .slice Y fy.length cy, .float .f32 fr, .float .f32 fd, .float .f32 fs]) := Lib.hid (by rw [hw0]; exact (blkL_at w #[.slice X fx.length cx, .slice Y fy.length cy, .float .f32 fr, .float .f32 fd, .float .f32 fs] _ rfl).alloc _)
  have S0 : Hid (BlkL w0 (w.heap.size + 1) [.slice A a.length ca, .slice L l.length cl]) := Lib.hid (by rw [hw0]; exact blkL_at (w.alloc _) #[.slice A a.length ca, .slice L l.length cl] _ (by simp))
  have B0 : Hid (Below w.heap.size w w0) := Lib.hid (by rw [hw0]; exact ((Below.refl _ _).alloc (Nat.le_refl _) _).alloc (by simp) _)
  obtain ⟨k0, k1, k2, k3, k4⟩ := K0.out.five
  obtain ⟨s0, s1⟩ := S0.out.two
  go_enter Try.func42, Try.ntmps42
  go_upto_region 1 with fail
  rw [← hw0]
  clear hw0
  go_wp2_with fail
  refine (i_FarmPower X Y cx cy fx fy fr fd fs A L ca cl a l 1065353216 _ ⟨HP.out.1.below B0.out, HP.out.2.below B0.out⟩ HNF.out ⟨HRS.out.1.below B0.out, HRS.out.2.below B0.out⟩ HNR.out).mono ?_
  rintro e w1 ⟨r1, rfl, hr1, b1⟩
  clear k0 k1 k2 k3 k4 s0 s1
  have HR1 := Lib.hid hr1
  have K1 := Lib.hid (K0.out.below b1)
  have S1 := Lib.hid (S0.out.below b1)
  have B1 : Hid (Below w.heap.size w w1) := Lib.hid (below_of B0.out B0.out.size b1)
  clear b1 hr1
  cases ho : fpO fx fy fr fd fs 1065353216 a l
  · have HNO := Lib.hid (fs_noA ho)
    clear ho
    go_wp2
    refine bodyPost_ret (results_tmp2 rfl _ _ _) rfl ?_
    rw [HNO.out.1, HNO.out.2]
    exact ⟨0, rfl, rfl, B1.out⟩
  · have HO := Lib.hid ho
    obtain ⟨-, hv, -, -⟩ := fpO_parts ho
    obtain ⟨q1, q2, q3⟩ := frmV_size hv
    clear ho hv
    have HQ3 := Lib.hid q3
    have hc1 : 1 ≤ cx := by have := HCX.out; omega
    have hc2 : 1 ≤ cy := by have := HCY.out; omega
    have HT1 : Hid ((fx.take 1).length = 1) := Lib.hid (by simp; omega)
    have HT2 : Hid ((fy.take 1).length = 1) := Lib.hid (by simp; omega)
    have HFW : Hid (FewS (fx.take 1) (fy.take 1)) := Lib.hid (by unfold FewS; rw [HT1.out, HT2.out]; decide)
    clear q3
    have HQ1 := Lib.hid q1
    obtain ⟨bx, ox, rfl, -, -⟩ := HP.out.1.at_ (k := 0) (by have := HQ1.out; omega)
    obtain ⟨by_, oy, rfl, -, -⟩ := HP.out.2.at_ (k := 0) (by have := HQ1.out; have := HQ3.out; omega)
    obtain ⟨k0, k1, k2, k3, k4⟩ := K1.out.five
    obtain ⟨w2, hw2⟩ : ∃ z, z = w1.alloc (.cells #[.slice (some ⟨bx, ox, none⟩) fx.length cx, .slice (some ⟨by_, oy, none⟩) fy.length cy, .float .f32 fr, .float .f32 fd, .float .f32 fs] 50) := ⟨_, rfl⟩
    have b2 : Below w1.heap.size w1 w2 := by rw [hw2]; exact (Below.refl _ _).alloc (Nat.le_refl _) _
    have N2 : Hid (BlkL w2 w1.heap.size [.slice (some ⟨bx, ox, none⟩) fx.length cx, .slice (some ⟨by_, oy, none⟩) fy.length cy, .float .f32 fr, .float .f32 fd, .float .f32 fs]) := Lib.hid (by rw [hw2]; exact blkL_at w1 #[.slice (some ⟨bx, ox, none⟩) fx.length cx, .slice (some ⟨by_, oy, none⟩) fy.length cy, .float .f32 fr, .float .f32 fd, .float .f32 fs] _ rfl)
    have K2 := Lib.hid (K1.out.below b2)
    have S2 := Lib.hid (S1.out.below b2)
    have B2 : Hid (Below w.heap.size w w2) := Lib.hid (below_of B1.out B1.out.size b2)
    have hne : w.heap.size ≠ w1.heap.size := by have := K1.out.1; omega
    have B12 := Lib.hid b2
    clear b2
    go_upto_region 5 with fail
    rw [← hw2]
    clear hw2 k0 k1 k2 k3 k4
    obtain ⟨k0, k1, k2, k3, k4⟩ := K2.out.five
    have n0 := N2.out.2 0 _ rfl
    have n1 := N2.out.2 1 _ rfl
    obtain ⟨n0, n0f⟩ := n0
    obtain ⟨n1, n1f⟩ := n1
    obtain ⟨w3, hw3⟩ : ∃ z, z = ((w2.setCell ⟨w1.heap.size, 0, none⟩ (.slice (some ⟨bx, ox, none⟩) 1 cx)).setCell ⟨w1.heap.size, 1, none⟩ (.slice (some ⟨by_, oy, none⟩) 1 cy)).drew := ⟨_, rfl⟩
    have b13 : Below w1.heap.size w1 w3 := by rw [hw3]; exact ((B12.out.setCell (p := ⟨w1.heap.size, 0, none⟩) (Nat.le_refl _) _).setCell (p := ⟨w1.heap.size, 1, none⟩) (Nat.le_refl _) _).drew
    have N3 : Hid (BlkL w3 w1.heap.size [.slice (some ⟨bx, ox, none⟩) 1 cx, .slice (some ⟨by_, oy, none⟩) 1 cy, .float .f32 fr, .float .f32 fd, .float .f32 fs]) := Lib.hid (by rw [hw3]; exact ((N2.out.set (i := 0) (by simp) (.slice (some ⟨bx, ox, none⟩) 1 cx)).set (i := 1) (by simp) (.slice (some ⟨by_, oy, none⟩) 1 cy)).below ((Below.refl _ _).drew))
    have K3 := Lib.hid (K1.out.below b13)
    have S3 := Lib.hid (S1.out.below b13)
    have B3 : Hid (Below w.heap.size w w3) := Lib.hid (below_of B1.out B1.out.size b13)
    clear b13
    go_region
    rw [← hw3]
    clear hw3 k0 k1 k2 k3 k4 n0 n1 n0f n1f
    obtain ⟨n0, n1, n2, n3, n4⟩ := N3.out.five
    obtain ⟨s0, s1⟩ := S3.out.two
    go_wp2_with fail
    have HC := Lib.hid (i_FarmPower (some ⟨bx, ox, none⟩) (some ⟨by_, oy, none⟩) cx cy (fx.take 1) (fy.take 1) fr fd fs A L ca cl a l 1065353216 w3 ⟨(HP.out.1.take1 1).below B3.out, (HP.out.2.take1 1).below B3.out⟩ HFW.out ⟨HRS.out.1.below B3.out, HRS.out.2.below B3.out⟩ HNR.out)
    rw [HT1.out, HT2.out] at HC
    refine HC.out.mono ?_
    rintro e w4 ⟨r2, rfl, hr2, b4⟩
    clear n0 n1 n2 n3 n4 s0 s1
    have HR2 := Lib.hid hr2
    have K4 := Lib.hid (K3.out.below b4)
    have B4 : Hid (Below w.heap.size w w4) := Lib.hid (below_of B3.out B3.out.size b4)
    clear b4 hr2 HC
    cases ho1 : fpO (fx.take 1) (fy.take 1) fr fd fs 1065353216 a l
    · have HNO := Lib.hid (fs_no1 ho1)
      clear ho1
      go_wp2
      refine bodyPost_ret (results_tmp2 rfl _ _ _) rfl ?_
      rw [HNO.out.1, HNO.out.2]
      exact ⟨0, rfl, rfl, B4.out⟩
    · have HY := Lib.hid (fs_yes HO.out ho1)
      clear ho1
      obtain ⟨k0, k1, k2, k3, k4⟩ := K4.out.five
      go_wp2_with fail
      refine (i_onlyFiniteC _ (fsV fx fy fr fd fs a l) _ (by rw [canon_fopV, canon_fopV, HR1.out, HR2.out]; rfl)).mono ?_
      rintro e w5 ⟨r5, n5, rfl, hr5, hw5⟩
      have HR5 := Lib.hid hr5
      have B5 : Hid (Below w.heap.size w w5) := Lib.hid (by rw [hw5]; repeat (first | exact B4.out | refine below_draws ?_ _))
      clear hr5 hw5 k0 k1 k2 k3 k4
      go_wp2
      refine bodyPost_ret (results_tmp2 rfl _ _ _) rfl ?_
      rw [HY.out.1, HY.out.2]
      exact ⟨r5, rfl, by rw [HR5.out, canon_onlyN, show canon .f32 (fsV fx fy fr fd fs a l) = fsV fx fy fr fd fs a l from canon_fop ..], B5.out⟩
set_option maxHeartbeats 8000000 in
set_option maxRecDepth 100000 in
theorem s_FarmShare (X Y : Option Addr) (cx cy : Nat) (fx fy : List Nat) (fr fd fs : Nat) (A L : Option Addr) (ca cl : Nat) (a l : List Nat) (w : World) (h : Rs w X Y fx fy) (hn : FewS fx fy) (hr : Rs w A L a l) (hnr : FewS a l) (hcx : fx.length ≤ cx) (hcy : fy.length ≤ cy) :
    Calls Try.prog 41 #[.agg #[.slice X fx.length cx, .slice Y fy.length cy, .float .f32 fr, .float .f32 fd, .float .f32 fs], .agg #[.slice A a.length ca, .slice L l.length cl]] w fun e w' => ∃ r, e = .returned (.tuple #[.float .f32 r, .bool (fsO fx fy fr fd fs a l)]) ∧ canon .f32 r = canon .f32 (fsR fx fy fr fd fs a l) ∧ Below w.heap.size w w' := by
  have HP := Lib.hid h; clear h
  have HNF := Lib.hid hn; clear hn
  have HRS := Lib.hid hr; clear hr
  have HNR := Lib.hid hnr; clear hnr
  have HCX := Lib.hid hcx; clear hcx
  have HCY := Lib.hid hcy; clear hcy
  obtain ⟨w0, hw0⟩ : ∃ z, z = (w.alloc (.cells #[.slice X fx.length cx, .slice Y fy.length cy, .float .f32 fr, .float .f32 fd, .float .f32 fs] 50)).alloc (.cells #[.slice A a.length ca, .slice L l.length cl] 34) := ⟨_, rfl⟩
  have K0 : Hid (BlkL w0 w.heap.size [.slice X fx.length cx, .slice Y fy.length cy, .float .f32 fr, .float .f32 fd, .float .f32 fs]) := Lib.hid (by rw [hw0]; exact (blkL_at w #[.slice X fx.length cx, .slice Y fy.length cy, .float .f32 fr, .float .f32 fd, .float .f32 fs] _ rfl).alloc _)
  have S0 : Hid (BlkL w0 (w.heap.size + 1) [.slice A a.length ca, .slice L l.length cl]) := Lib.hid (by rw [hw0]; exact blkL_at (w.alloc _) #[.slice A a.length ca, .slice L l.length cl] _ (by simp))
  have B0 : Hid (Below w.heap.size w w0) := Lib.hid (by rw [hw0]; exact ((Below.refl _ _).alloc (Nat.le_refl _) _).alloc (by simp) _)
  go_enter Try.func41, Try.ntmps41
  go_upto_region 1 with fail
  rw [← hw0]
  clear hw0
  go_wp2_with fail
  refine (s_l06Both X Y cx cy fx fy fr fd fs A L ca cl a l w.heap.size (w.heap.size + 1) _ ⟨HP.out.1.below B0.out, HP.out.2.below B0.out⟩ HNF.out ⟨HRS.out.1.below B0.out, HRS.out.2.below B0.out⟩ HNR.out K0.out S0.out).mono ?_
  rintro e w1 ⟨rfl, n1, hw⟩
  have b1 : Below w0.heap.size w0 w1 := by rw [hw]; exact below_draws (Below.refl _ _) _
  clear hw
  have K1 := Lib.hid (K0.out.below b1)
  have S1 := Lib.hid (S0.out.below b1)
  have B1 : Hid (Below w.heap.size w w1) := Lib.hid (below_of B0.out B0.out.size b1)
  clear b1
  cases hv : frmV fx fy fr fd fs && rosV a l
  · have HNO := Lib.hid (fs_noA (fx := fx) (fy := fy) (fr := fr) (fd := fd) (fs := fs) (a := a) (l := l) (by
      unfold fsAll
      rw [Bool.and_eq_false_iff] at hv
      rcases hv with h | h
      · exact fpO_f h
      · exact fpO_r h))
    clear hv
    go_wp2
    refine bodyPost_ret (results_tmp2 rfl _ _ _) rfl ?_
    rw [HNO.out.1, HNO.out.2]
    exact ⟨0, rfl, rfl, B1.out⟩
  · rw [Bool.and_eq_true] at hv
    have HV := Lib.hid hv
    obtain ⟨q1, q2, q3⟩ := frmV_size hv.1
    clear hv
    have HQ3 := Lib.hid q3
    have hc1 : 1 ≤ cx := by have := HCX.out; omega
    have hc2 : 1 ≤ cy := by have := HCY.out; omega
    have HT1 : Hid ((fx.take 1).length = 1) := Lib.hid (by simp; omega)
    have HT2 : Hid ((fy.take 1).length = 1) := Lib.hid (by simp; omega)
    have HFW : Hid (FewS (fx.take 1) (fy.take 1)) := Lib.hid (by unfold FewS; rw [HT1.out, HT2.out]; decide)
    clear q3
    have HQ1 := Lib.hid q1
    obtain ⟨bx, ox, rfl, -, -⟩ := HP.out.1.at_ (k := 0) (by have := HQ1.out; omega)
    obtain ⟨by_, oy, rfl, -, -⟩ := HP.out.2.at_ (k := 0) (by have := HQ1.out; have := HQ3.out; omega)
    obtain ⟨k0, k1, k2, k3, k4⟩ := K1.out.five
    have ka : ∀ o, (w1.alloc o).cell? ⟨w.heap.size, 0, none⟩ = some (.slice (some ⟨bx, ox, none⟩) fx.length cx) := fun o => ((K1.out.alloc o).2 0 _ rfl).1
    have kb : ∀ o, (w1.alloc o).cell? ⟨w.heap.size, 1, none⟩ = some (.slice (some ⟨by_, oy, none⟩) fy.length cy) := fun o => ((K1.out.alloc o).2 1 _ rfl).1
    have kc : ∀ o, (w1.alloc o).cell? ⟨w.heap.size, 2, none⟩ = some (.float .f32 fr) := fun o => ((K1.out.alloc o).2 2 _ rfl).1
    have kd : ∀ o, (w1.alloc o).cell? ⟨w.heap.size, 3, none⟩ = some (.float .f32 fd) := fun o => ((K1.out.alloc o).2 3 _ rfl).1
    have ke : ∀ o, (w1.alloc o).cell? ⟨w.heap.size, 4, none⟩ = some (.float .f32 fs) := fun o => ((K1.out.alloc o).2 4 _ rfl).1
    go_upto_region 3 with fail
    go_region
    clear k0 k1 k2 k3 k4 ka kb kc kd ke
    obtain ⟨w2, hw2⟩ : ∃ z, z = (w1.alloc (.cells #[.slice (some ⟨bx, ox, none⟩) 1 cx, .slice (some ⟨by_, oy, none⟩) 1 cy, .float .f32 fr, .float .f32 fd, .float .f32 fs] 50)).drew := ⟨_, rfl⟩
    have b2 : Below w1.heap.size w1 w2 := by rw [hw2]; exact ((Below.refl _ _).alloc (Nat.le_refl _) _).drew
    have N2 : Hid (BlkL w2 w1.heap.size [.slice (some ⟨bx, ox, none⟩) 1 cx, .slice (some ⟨by_, oy, none⟩) 1 cy, .float .f32 fr, .float .f32 fd, .float .f32 fs]) := Lib.hid (by rw [hw2]; exact (blkL_at w1 #[.slice (some ⟨bx, ox, none⟩) 1 cx, .slice (some ⟨by_, oy, none⟩) 1 cy, .float .f32 fr, .float .f32 fd, .float .f32 fs] _ rfl).below ((Below.refl _ _).drew))
    have K2 := Lib.hid (K1.out.below b2)
    have S2 := Lib.hid (S1.out.below b2)
    have B2 : Hid (Below w.heap.size w w2) := Lib.hid (below_of B1.out B1.out.size b2)
    clear b2
    go_wp2_with fail
    rw [← hw2]
    clear hw2
    have HC := Lib.hid (s_l06Farm (some ⟨bx, ox, none⟩) (some ⟨by_, oy, none⟩) cx cy (fx.take 1) (fy.take 1) fr fd fs A L ca cl a l w1.heap.size (w.heap.size + 1) 1065353216 w2 ⟨(HP.out.1.take1 1).below B2.out, (HP.out.2.take1 1).below B2.out⟩ HFW.out ⟨HRS.out.1.below B2.out, HRS.out.2.below B2.out⟩ HNR.out (by rw [HT1.out, HT2.out]; exact N2.out) S2.out (frmV_take HV.out.1) HV.out.2)
    refine HC.out.mono ?_
    rintro e w3 ⟨r1, rfl, hr1, b3⟩
    have HR1 := Lib.hid hr1
    have K3 := Lib.hid (K2.out.below b3)
    have S3 := Lib.hid (S2.out.below b3)
    have B3 : Hid (Below w.heap.size w w3) := Lib.hid (below_of B2.out B2.out.size b3)
    clear b3 hr1 HC
    go_wp2_with fail
    refine (s_l06Farm (some ⟨bx, ox, none⟩) (some ⟨by_, oy, none⟩) cx cy fx fy fr fd fs A L ca cl a l w.heap.size (w.heap.size + 1) 1065353216 w3 ⟨HP.out.1.below B3.out, HP.out.2.below B3.out⟩ HNF.out ⟨HRS.out.1.below B3.out, HRS.out.2.below B3.out⟩ HNR.out K3.out S3.out HV.out.1 HV.out.2).mono ?_
    rintro e w4 ⟨r2, rfl, hr2, b4⟩
    have HR2 := Lib.hid hr2
    have K4 := Lib.hid (K3.out.below b4)
    have B4 : Hid (Below w.heap.size w w4) := Lib.hid (below_of B3.out B3.out.size b4)
    clear b4 hr2
    have HF1 : Hid (fsOne fx fy fr fd fs a l = fin .f32 r1) := Lib.hid (by unfold fsOne; rw [fpO_of HV.out.2 (frmV_take HV.out.1) one_amount, ← HR1.out, fin_canon])
    have HF2 : Hid (fsAll fx fy fr fd fs a l = fin .f32 r2) := Lib.hid (by unfold fsAll; rw [fpO_of HV.out.2 HV.out.1 one_amount, ← HR2.out, fin_canon])
    go_wp2_with fail
    refine (s_l01Finite _ _).mono ?_
    rintro e w5 ⟨n5, rfl, hw5⟩
    have b5 : Below w4.heap.size w4 w5 := by rw [hw5]; exact below_draws (Below.refl _ _) _
    have K5 := Lib.hid (K4.out.below b5)
    have B5 : Hid (Below w.heap.size w w5) := Lib.hid (below_of B4.out B4.out.size b5)
    clear b5 hw5
    cases h1 : fin .f32 r1
    · have HNO := Lib.hid (fs_no1 (HF1.out.trans h1))
      clear h1
      go_wp2
      refine bodyPost_ret (results_tmp2 rfl _ _ _) rfl ?_
      rw [HNO.out.1, HNO.out.2]
      exact ⟨0, rfl, rfl, B5.out⟩
    · have HH1 := Lib.hid (HF1.out.trans h1)
      clear h1
      go_wp2_with fail
      refine (s_l01Finite _ _).mono ?_
      rintro e w6 ⟨n6, rfl, hw6⟩
      have b6 : Below w5.heap.size w5 w6 := by rw [hw6]; exact below_draws (Below.refl _ _) _
      have K6 := Lib.hid (K5.out.below b6)
      have B6 : Hid (Below w.heap.size w w6) := Lib.hid (below_of B5.out B5.out.size b6)
      clear b6 hw6
      cases h2 : fin .f32 r2
      · have HNO := Lib.hid (fs_noA (HF2.out.trans h2))
        clear h2
        go_wp2
        refine bodyPost_ret (results_tmp2 rfl _ _ _) rfl ?_
        rw [HNO.out.1, HNO.out.2]
        exact ⟨0, rfl, rfl, B6.out⟩
      · have HH2 := Lib.hid (HF2.out.trans h2)
        have HY := Lib.hid (fs_yes HH2.out HH1.out)
        have HE1 : Hid (canon .f32 r1 = canon .f32 (fpR (fx.take 1) (fy.take 1) fr fd fs 1065353216 a l)) := Lib.hid (by rw [HR1.out, fpR_of HH1.out, canon_fpS])
        have HE2 : Hid (canon .f32 r2 = canon .f32 (fpR fx fy fr fd fs 1065353216 a l)) := Lib.hid (by rw [HR2.out, fpR_of HH2.out, canon_fpS])
        clear h2
        obtain ⟨k0, k1, k2, k3, k4⟩ := K6.out.five
        go_wp2_with fail
        refine (s_l02NumberC _ (fsV fx fy fr fd fs a l) _ (by rw [canon_fopV, canon_fopV, HE1.out, HE2.out]; rfl)).mono ?_
        rintro e w7 ⟨r7, n7, rfl, hr7, hw7⟩
        have HR7 := Lib.hid hr7
        have B7 : Hid (Below w.heap.size w w7) := Lib.hid (by rw [hw7]; repeat (first | exact B6.out | refine below_draws ?_ _))
        clear hr7 hw7 k0 k1 k2 k3 k4
        go_wp2
        refine bodyPost_ret (results_tmp2 rfl _ _ _) rfl ?_
        rw [HY.out.1, HY.out.2]
        exact ⟨r7, rfl, by rw [HR7.out, canon_onlyN, show canon .f32 (fsV fx fy fr fd fs a l) = fsV fx fy fr fd fs a l from canon_fop ..], B7.out⟩
end Go.Proofs.Ytmadlabnhjhfiaa
