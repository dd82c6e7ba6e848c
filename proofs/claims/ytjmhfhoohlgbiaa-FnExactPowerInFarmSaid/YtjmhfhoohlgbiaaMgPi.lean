/- PowerInFarm: both sides, put together. No statement is proved here. -/
import Derived.Test.YtjmhfhoohlgbiaaMgSp
import Derived.Test.YtjmhfhoohlgbiaaBinM
import Derived.Deep.Cut
import Derived.Deep.QuietTactic
import Derived.BigQuiet
namespace Go.Proofs.Ytjmhfhoohlgbiaa
open Go Go.RowKit
theorem losV_le {fx fy : List Nat} {fr fd fs x y c s : Nat} (h : LosOk fx fy fr fd fs x y c s) : ∃ m e, FloatKind.f32.decode (losV fx fy fr fd fs x y c s) = .number false m e ∧ m * 2 ^ (e - min (-23) e).toNat ≤ 8388608 * 2 ^ (-23 - min (-23) e).toNat := by
  unfold losV
  cases hg : gtr32 (losR fx fy fr fd fs x y c s) 1065353216
  · rw [if_neg (by decide)]
    obtain ⟨m, e, hd, -⟩ := h.root
    refine ⟨m, e, hd, ?_⟩
    unfold gtr32 at hg
    rw [order_numbers hd one_decode, cmp_gt] at hg
    simp only [Ieee.signed, Bool.false_eq_true, if_false, Nat.shiftLeft_eq] at hg
    have hg := of_decide_eq_false hg
    rw [Int.min_comm]
    omega
  · rw [if_pos rfl]
    exact ⟨8388608, -23, one_decode, Nat.le_refl _⟩
/-- what is left of 1 is not below 0 -/
theorem less_up {fx fy : List Nat} {fr fd fs x y c s : Nat} (h : LosOk fx fy fr fd fs x y c s) : upD (FloatKind.f32.decode (fop .sub .f32 1065353216 (losV fx fy fr fd fs x y c s))) := by
  obtain ⟨m, e, hd, hle⟩ := losV_le h
  have e1 : ∃ v b, fop .sub .f32 1065353216 (losV fx fy fr fd fs x y c s) = FloatKind.f32.format.write (.number false v b) := by
    unfold fop floatBits Ieee.Format.sub
    simp only []
    rw [show FloatKind.f32.format.read 1065353216 = .number false 8388608 (-23) from one_decode, show FloatKind.f32.format.read (losV fx fy fr fd fs x y c s) = .number false m e from hd]
    simp only [Ieee.Datum.opposite, Ieee.Datum.sum, Ieee.signed, Bool.not_false, Bool.false_eq_true, if_false, if_true, Nat.shiftLeft_eq, Option.map_some, Option.getD_some]
    generalize m * 2 ^ (e - min (-23) e).toNat = B at hle ⊢
    generalize 8388608 * 2 ^ (-23 - min (-23) e).toNat = A at hle ⊢
    have hs : (if (A : Int) + -(B : Int) = 0 then (false && true) else decide ((A : Int) + -(B : Int) < 0)) = false := by
      split
      · rfl
      · exact decide_eq_false (by omega)
    rw [hs]
    exact ⟨_, _, canon_of_not (write_not_nan FloatKind.f32.format rfl)⟩
  obtain ⟨v, b, e1⟩ := e1
  rw [e1]
  exact upD_write _ (.inl rfl) up32
theorem mul_upD {x y : Nat} (hx : amount x = true) (hy : upD (FloatKind.f32.decode y)) (hf : fin .f32 y = true) : upD (FloatKind.f32.decode (fop .mul .f32 x y)) := by
  obtain ⟨s, m, i, dx, hs⟩ := amount_up hx
  obtain ⟨t, n, j, dy⟩ := fin_number hf
  rw [dy] at hy
  have ht : t = false ∨ n = 0 := hy
  have e1 : fop .mul .f32 x y = FloatKind.f32.format.write (.number (s ^^ t) (m * n) (i + j)) := by
    unfold fop floatBits Ieee.Format.mul
    simp only []
    rw [dx, show FloatKind.f32.format.read y = .number t n j from dy]
    simp only [Ieee.Datum.product, Option.map_some, Option.getD_some]
    exact canon_of_not (write_not_nan FloatKind.f32.format rfl)
  rw [e1]
  refine upD_write _ ?_ up32
  rcases hs with rfl | rfl
  · rcases ht with rfl | rfl
    · exact .inl rfl
    · exact .inr (Nat.mul_zero _)
  · exact .inr (Nat.zero_mul _)
theorem up_amount {x : Nat} (hu : upD (FloatKind.f32.decode x)) (hf : fin .f32 x = true) : amount x = true := by
  obtain ⟨s, m, e, hd⟩ := fin_number hf
  rw [hd] at hu
  have hs : s = false ∨ m = 0 := hu
  unfold amount geq32
  rw [hf, order_numbers hd zero_decode, cmp_gt, cmp_eq]
  simp only [Ieee.signed, Bool.false_eq_true, if_false, Nat.shiftLeft_eq, Nat.zero_mul, Bool.true_and, Bool.or_eq_true, decide_eq_true_eq]
  rcases hs with rfl | rfl
  · simp only [Bool.false_eq_true, if_false]
    generalize m * 2 ^ (e - min e (-149)).toNat = A
    omega
  · simp
/-- a speed that is finite is an amount -/
theorem sfw_amount {fx fy : List Nat} {fr fd fs t sp k : Nat} (hv : frmV fx fy fr fd fs = true) (ht : fin .f32 t = true) (hs : amount sp = true) (hk : k < fx.length) (hf : fin .f32 (sfwQ fx fy fr fd fs t sp k) = true) : amount (sfwQ fx fy fr fd fs t sp k) = true := by
  have hL := losOk_own hv ht hk
  exact up_amount (mul_upD hs (less_up hL) (less_sure hL).2) hf
def pifA (fr : Nat) : Nat := fop .mul .f32 (fop .mul .f32 (canon .f32 1078530011) (canon .f32 fr)) (canon .f32 fr)
def pifT (fd : Nat) : Nat := fop .mul .f32 (fop .mul .f32 (fop .mul .f32 (canon .f32 1082130432) (canon .f32 fd)) (fop .sub .f32 (canon .f32 1065353216) (canon .f32 fd))) (fop .sub .f32 (canon .f32 1065353216) (canon .f32 fd))
def pifQ (dn x fr fd : Nat) : Nat := fop .mul .f32 (fop .mul .f32 (powV dn x) (pifA fr)) (pifT fd)
def pifL (fx fy : List Nat) (fr fd fs t sp dn : Nat) : List Nat := (List.range fx.length).map fun k => pifQ dn (sfwQ fx fy fr fd fs t sp k) fr fd
theorem pifL_length (fx fy : List Nat) (fr fd fs t sp dn : Nat) : (pifL fx fy fr fd fs t sp dn).length = fx.length := by simp [pifL]
theorem pifL_at {fx fy : List Nat} {fr fd fs t sp dn k : Nat} (h : k < fx.length) : (pifL fx fy fr fd fs t sp dn).getD k 0 = pifQ dn (sfwQ fx fy fr fd fs t sp k) fr fd := by simp [pifL, List.getD, h]
theorem sumK_parts {xs : List Nat} : ∀ n, fin .f32 (sumK xs n) = true → ∀ k, k < n → fin .f32 (xs.getD k 0) = true := by
  intro n
  induction n with
  | zero => intro _ k hk; omega
  | succ n ih =>
    intro h k hk
    simp only [sumK] at h
    obtain ⟨h1, h2⟩ := sum_fin h
    by_cases e : k = n
    · subst e; rw [fin_canon] at h2; exact h2
    · exact ih h1 k (by omega)
theorem pifQ_parts {dn x fr fd : Nat} (h : fin .f32 (pifQ dn x fr fd) = true) : fin .f32 (powV dn x) = true ∧ fin .f32 x = true := by
  have h1 : fin .f32 (powV dn x) = true := by
    cases h2 : fin .f32 (powV dn x)
    · unfold pifQ at h
      rw [mulL_not_fin (mulL_not_fin h2)] at h
      cases h
    · rfl
  refine ⟨h1, ?_⟩
  cases h2 : fin .f32 x
  · unfold powV at h1
    rw [mulR_not_fin (by rw [fin_canon]; exact h2)] at h1
    cases h1
  · rfl
/-- where the sum is finite, every power is one -/
theorem pif_pow {fx fy : List Nat} {fr fd fs t sp dn : Nat} (hv : frmV fx fy fr fd fs = true) (ht : fin .f32 t = true) (hs : amount sp = true) (hd : amount dn = true) (hf : fin .f32 (sumK (pifL fx fy fr fd fs t sp dn) fx.length) = true) : ∀ k, k < fx.length → powO dn (sfwQ fx fy fr fd fs t sp k) = true := by
  intro k hk
  have h1 := sumK_parts _ hf k hk
  rw [pifL_at hk] at h1
  obtain ⟨h2, h3⟩ := pifQ_parts h1
  unfold powO
  rw [hd, sfw_amount hv ht hs hk h3, h2]
  rfl
end Go.Proofs.Ytjmhfhoohlgbiaa
namespace Go.Proofs.Ytjmhfhoohlgbiaa
open Go Go.RowKit
theorem i_pifAt (dn da dt x B1 B2 B3 : Nat) (w : World) (l1 : w.cell? ⟨B1, 0, none⟩ = some (.float .f32 dn)) (l2 : w.cell? ⟨B2, 0, none⟩ = some (.float .f32 da)) (l3 : w.cell? ⟨B3, 0, none⟩ = some (.float .f32 dt)) :
    Calls Try.prog 63 #[.float .f32 x, .pointer (some ⟨B1, 0, none⟩), .pointer (some ⟨B2, 0, none⟩), .pointer (some ⟨B3, 0, none⟩)] w fun e w' => ∃ r, e = .returned (.tuple #[.float .f32 r, .bool (powO dn x)]) ∧ canon .f32 r = fop .mul .f32 (fop .mul .f32 (powR dn x) (canon .f32 da)) (canon .f32 dt) ∧ Below w.heap.size w w' := by
  have L2 := Lib.hid l2
  have L3 := Lib.hid l3
  clear l2 l3
  go_enter Try.func63, Try.ntmps63
  go_wp2_with fail
  refine (i_AirPower dn x _).mono ?_
  rintro e w1 ⟨r, n, rfl, hr, hw⟩
  have HR := Lib.hid hr
  have b1 : Below w.heap.size w w1 := by rw [hw]; exact below_draws (Below.refl _ _) _
  have m2 : w1.cell? ⟨B2, 0, none⟩ = some (.float .f32 da) := by rw [hw]; exact L2.out
  have m3 : w1.cell? ⟨B3, 0, none⟩ = some (.float .f32 dt) := by rw [hw]; exact L3.out
  have B1' := Lib.hid b1
  clear hr hw b1 l1
  go_wp2_with fail
  refine (i_mulNumbers _ _ _).mono ?_
  rintro e w2 ⟨rfl, rfl⟩
  go_wp2
  go_ret2
  exact ⟨_, rfl, by rw [canon_fopV, canon_fopV, HR.out], by repeat (first | exact B1'.out | refine below_draws ?_ _)⟩
theorem i_sumOfPowers (A : Option Addr) (cap : Nat) (xs : List Nat) (ok : Bool) (w : World) (h : Fl w A xs) (hn : xs.length ≤ 256) :
    Calls Try.prog 61 #[.slice A xs.length cap, .bool ok] w fun e w' => ∃ r, e = .returned (.tuple #[.float .f32 r, .bool (ok && fin .f32 (sumK xs xs.length))]) ∧ canon .f32 r = (if ok then onlyN (sumK xs xs.length) else 0) ∧ Below w.heap.size w w' := by
  have HF := Lib.hid h; clear h
  cases ok
  · go_enter Try.func61, Try.ntmps61
    go_wp2
    go_ret2
    exact ⟨0, by simp, by decide +kernel, Below.refl _ _⟩
  · go_enter Try.func61, Try.ntmps61
    go_wp2_with fail
    refine (i_sumOf A cap xs _ HF.out hn).mono ?_
    rintro e w1 ⟨r, n, rfl, hr, hw⟩
    have HR := Lib.hid hr
    have B1' : Hid (Below w.heap.size w w1) := Lib.hid (by rw [hw]; exact below_draws (Below.refl _ _) _)
    clear hr hw
    go_wp2_with fail
    refine (i_onlyFiniteC r (sumK xs xs.length) _ HR.out).mono ?_
    rintro e w2 ⟨ro, no, rfl, hro, hw2⟩
    have HO := Lib.hid hro
    have HW2 := Lib.hid hw2
    clear hro hw2
    go_wp2
    go_ret2
    exact ⟨ro, rfl, HO.out, by rw [HW2.out]; exact below_draws B1'.out _⟩
set_option maxHeartbeats 4000000 in
set_option maxRecDepth 100000 in
theorem i_powersOf_pf (c0 c1 c2 : Value) (q : Nat → Nat) (p : Nat → Bool) (A : Option Addr) (cap : Nat) (xs : List Nat) (w : World) (h : Fl w A xs) (hn : xs.length ≤ 32)
    (hat : ∀ k, k < xs.length → ∀ wr, Below w.heap.size w wr → Calls Try.prog 63 #[.float .f32 (xs.getD k 0), c0, c1, c2] wr fun e w' => ∃ r, e = .returned (.tuple #[.float .f32 r, .bool (p k)]) ∧ canon .f32 r = q k ∧ Below wr.heap.size wr w') :
    Calls Try.prog 62 #[.slice A xs.length cap, .func (.func 63) #[] #[c0, c1, c2]] w fun e w' => ∃ (A' : Option Addr) (cap' g' : Nat) (ys : List Nat), e = .returned (.tuple #[.slice A' ys.length cap', .bool (alls p xs.length)]) ∧ OwnO w' w.heap.size A' g' ys ∧ (alls p xs.length = false → ys = []) ∧ (alls p xs.length = true → ys.length = xs.length ∧ ∀ k, k < xs.length → canon .f32 (ys.getD k 0) = q k) ∧ Below w.heap.size w w' := by
  have HA := Lib.hid hat; clear hat
  have HF := Lib.hid h; clear h
  obtain ⟨i0, hi, hz0, hz1, hz2⟩ := info_parts f32_info
  have hmk := run_make (P := Try.prog) w 22 23 i0 (.float .f32 0) (by kernel_rfl) hi hz0 .i64 .i64 0 xs.length (by omega) (by omega) (by rw [hz2]; omega) (by omega)
  rw [hz1] at hmk
  have hmk' : (Instr.makeSlice 22 (.int .i64 0) (.int .i64 xs.length)).run Try.prog w = .ok (.slice (some ⟨w.heap.size, 0, none⟩) 0 xs.length) (w.alloc (.cells (madeCells #[.float .f32 0] xs.length) 23)) := by
    rw [hmk]; simp [Value.cells]
  clear hmk
  have hst : Gr (w.alloc (.cells (madeCells #[.float .f32 0] xs.length) 23)) w.heap.size (.slice (some ⟨w.heap.size, 0, none⟩) 0 xs.length) [] := Gr.made _ _ _ _ (Nat.le_refl _) (by unfold maxLen; omega) (by simp [madeCells])
  have hb0 : Below w.heap.size w (w.alloc (.cells (madeCells #[.float .f32 0] xs.length) 23)) := (Below.refl _ _).alloc (Nat.le_refl _) _
  have HST := Lib.hid hst
  have HB0 := Lib.hid hb0
  clear hst hb0
  go_enter Try.func62, Try.ntmps62
  go_wp2
  clear hmk'
  go_loopw [6, 19] (fun v i wr => ∃ (k : Nat) (ys : List Nat), k ≤ xs.length ∧ i = .int .i64 k ∧ Hid (Gr wr w.heap.size v ys) ∧ Hid (ys.length = k) ∧ Hid (alls p k = true) ∧ Hid (∀ j, j < k → canon .f32 (ys.getD j 0) = q j) ∧ Hid (Below w.heap.size w wr)) (fun _ i _ => xs.length - (intOf i).toNat)
  case atStart => exact ⟨0, [], Nat.zero_le _, rfl, HST, rfl, rfl, Lib.hid (fun j hj => absurd hj (Nat.not_lt_zero j)), HB0⟩
  case round =>
    obtain ⟨k, ys, hk, rfl, HG, HL, HP, HQ, HBW⟩ := hrel
    by_cases hlt : k < xs.length
    · obtain ⟨b, off, rfl, hb, hc⟩ := HF.out.at_ hlt
      rw [← HBW.out.cell (p := ⟨b, off + k, none⟩) hb] at hc
      have hcall := Lib.hid (HA.out k hlt _ HBW.out)
      have HX : Hid (xs.getD k 0 = xs.getD k 0) := rfl
      obtain ⟨x, hx⟩ : ∃ x, x = xs.getD k 0 := ⟨_, rfl⟩
      rw [← hx] at hc hcall
      clear hx HX hb
      go_wp2_with fail
      refine hcall.out.mono ?_
      rintro e w1 ⟨r, rfl, hr, b1⟩
      have HG1 := Lib.hid (HG.out.below b1)
      have HB1 : Hid (Below w.heap.size w w1) := Lib.hid (below_of HBW.out HBW.out.size b1)
      have HR := Lib.hid hr
      clear hr b1 hc hcall
      cases pk : p k
      · have HN : Hid (alls p xs.length = false) := Lib.hid (alls_no (k := k + 1) (by simp only [alls, pk, Bool.and_false]) (by omega))
        clear pk
        go_wp2
        go_ret2
        exact ⟨none, 0, 0, [], by rw [HN.out]; rfl, .inl rfl, fun _ => rfl, fun h => absurd h (by rw [HN.out]; decide), HB1.out⟩
      · have HN : Hid (alls p (k + 1) = true) := Lib.hid (by simp only [alls, pk, HP.out, Bool.and_true])
        have hown := HG1.out
        clear pk
        unfold Gr at hown
        go_wp2_with (first
          | (at_builtin; refine wpList_append_own _ rfl _ _ 22 rfl w.heap.size 23 i0 (.float .f32 0) 1 4 Try.underlying22 hi hz0 hz1 hz2 rfl (by decide) _ _ _ rfl (hown.alloc _) ⟨_, 0, none⟩ 1 1 [.float .f32 r] rfl rfl ?c1 ?c2 ?c3 ?c4 ?c5 ?_)
          | fail)
        case c1 =>
          intro j u hj
          match j, hj with
          | 0, hj => simp at hj; subst hj; simp [Addr.add]
        case c2 => intro u hu; simp at hu; subst hu; rfl
        case c3 => have := HL.out; unfold maxLen; omega
        case c4 => have := HL.out; omega
        case c5 => have := HB1.out.size; simp; omega
        · intro v' w2 hown' hgrow _
          obtain ⟨g2, b2⟩ := Gr.next HG1.out HB1.out (Nat.le_refl _) hown' hgrow
          have HG2 := Lib.hid g2
          have HB2 := Lib.hid b2
          have HQ2 : Hid (∀ j, j < k + 1 → canon .f32 ((ys ++ [r]).getD j 0) = q j) := Lib.hid (fun j hj => by
            rw [getD_snoc _ _ _ (by rw [HL.out]; exact hj), HL.out]
            split
            · rename_i e; rw [HR.out, e]
            · exact HQ.out j (by omega))
          have HL2 : Hid ((ys ++ [r]).length = k + 1) := Lib.hid (by simp [HL.out])
          clear g2 b2 hown hown' hgrow
          go_wp2
          go_roundw
          case rel => exact ⟨k + 1, _, by omega, by go_num, HG2, HL2, HN, HQ2, HB2⟩
          case measure => simp [intOf]; omega
    · have hkk : k = xs.length := by omega
      subst hkk
      obtain ⟨A', cap', b', rfl, ho⟩ := HG.out.own
      have HO := Lib.hid ho
      clear ho
      go_wp2
      go_ret2
      exact ⟨A', cap', b', ys, by rw [HP.out]; rfl, HO.out, fun h => absurd h (by rw [HP.out]; decide), fun _ => ⟨HL.out, HQ.out⟩, HBW.out⟩
end Go.Proofs.Ytjmhfhoohlgbiaa
namespace Go.Proofs.Ytjmhfhoohlgbiaa
open Go Go.RowKit
def pifO (fx fy : List Nat) (fr fd fs t sp dn : Nat) : Bool := sfwO fx fy fr fd fs t sp && (amount dn && fin .f32 (sumK (pifL fx fy fr fd fs t sp dn) fx.length))
def pifR (fx fy : List Nat) (fr fd fs t sp dn : Nat) : Nat := if pifO fx fy fr fd fs t sp dn then sumK (pifL fx fy fr fd fs t sp dn) fx.length else 0
theorem pifO_no {fx fy : List Nat} {fr fd fs t sp dn : Nat} (h : sfwO fx fy fr fd fs t sp = false) : pifO fx fy fr fd fs t sp dn = false := by unfold pifO; rw [h]; rfl
theorem pifR_no {fx fy : List Nat} {fr fd fs t sp dn : Nat} (h : pifO fx fy fr fd fs t sp dn = false) : pifR fx fy fr fd fs t sp dn = 0 := by unfold pifR; rw [h]; rfl
theorem alls_getP {p : Nat → Bool} : ∀ n, alls p n = true → ∀ k, k < n → p k = true := by
  intro n
  induction n with
  | zero => intro _ k hk; omega
  | succ n ih =>
    intro h k hk
    simp only [alls, Bool.and_eq_true] at h
    by_cases e : k = n
    · subst e; exact h.2
    · exact ih h.1 k (by omega)
theorem alls_putP {p : Nat → Bool} : ∀ n, (∀ k, k < n → p k = true) → alls p n = true := by
  intro n
  induction n with
  | zero => intro _; rfl
  | succ n ih =>
    intro h
    simp only [alls, Bool.and_eq_true]
    exact ⟨ih (fun k hk => h k (by omega)), h n (by omega)⟩
theorem sumK_likeP {xs ys : List Nat} : ∀ n, (∀ k, k < n → canon .f32 (xs.getD k 0) = canon .f32 (ys.getD k 0)) → sumK xs n = sumK ys n := by
  intro n
  induction n with
  | zero => intro _; rfl
  | succ n ih => intro h; simp only [sumK, ih (fun k hk => h k (by omega)), h n (by omega)]
theorem canon_sumKP (xs : List Nat) : ∀ n, canon .f32 (sumK xs n) = sumK xs n
  | 0 => canon_zero
  | n + 1 => by simp only [sumK]; rw [canon_fop]
theorem sfwO_parts {fx fy : List Nat} {fr fd fs t sp : Nat} (h : sfwO fx fy fr fd fs t sp = true) : frmV fx fy fr fd fs = true ∧ fin .f32 t = true ∧ amount sp = true := by
  unfold sfwO at h
  simp only [Bool.and_eq_true] at h
  exact h
/-- whether there is a power: the parts are, and their sum is -/
theorem pif_alls {fx fy : List Nat} {fr fd fs t sp dn : Nat} (h : sfwO fx fy fr fd fs t sp = true) : pifO fx fy fr fd fs t sp dn = (alls (fun k => powO dn (sfwQ fx fy fr fd fs t sp k)) fx.length && fin .f32 (sumK (pifL fx fy fr fd fs t sp dn) fx.length)) := by
  obtain ⟨h1, h2, h3⟩ := sfwO_parts h
  unfold pifO
  rw [h, Bool.true_and]
  cases hf : fin .f32 (sumK (pifL fx fy fr fd fs t sp dn) fx.length)
  · simp
  · rw [Bool.and_true, Bool.and_true]
    cases hd : amount dn
    · cases ha : alls (fun k => powO dn (sfwQ fx fy fr fd fs t sp k)) fx.length
      · rfl
      · have := alls_getP _ ha 0 (by have := frmV_size h1; omega)
        unfold powO at this
        rw [hd] at this
        cases this
    · exact (alls_putP _ (pif_pow h1 h2 h3 hd hf)).symm
theorem powR_yes {d s : Nat} (h : powO d s = true) : powR d s = powV d s := by
  unfold powO at h
  simp only [Bool.and_eq_true] at h
  unfold powR
  rw [h.1, h.2.1]
  simp only [Bool.and_self, if_true]
  unfold onlyN
  rw [h.2.2]
  rfl
theorem pif_sum {fx fy : List Nat} {fr fd fs t sp dn : Nat} {ys : List Nat} (ha : alls (fun k => powO dn (sfwQ fx fy fr fd fs t sp k)) fx.length = true) (hq : ∀ k, k < fx.length → canon .f32 (ys.getD k 0) = fop .mul .f32 (fop .mul .f32 (powR dn (sfwQ fx fy fr fd fs t sp k)) (pifA fr)) (pifT fd)) : sumK ys fx.length = sumK (pifL fx fy fr fd fs t sp dn) fx.length := by
  refine sumK_likeP _ (fun k hk => ?_)
  rw [hq k hk, pifL_at hk, powR_yes (alls_getP _ ha k hk)]
  unfold pifQ
  rw [canon_fop]
def pifT0 (fd : Nat) : Nat := fop .mul .f32 (fop .mul .f32 (fop .mul .f32 1082130432 fd) (fop .sub .f32 1065353216 fd)) (fop .sub .f32 1065353216 fd)
theorem pifT_sure {fd : Nat} (h : within fd 0 1056964608 = true) :
    (∀ w, fopV .mul .f32 1082130432 fd w = fop .mul .f32 1082130432 fd) ∧ fopN .mul .f32 1082130432 fd = 0 ∧
    (∀ w, fopV .sub .f32 1065353216 fd w = fop .sub .f32 1065353216 fd) ∧ fopN .sub .f32 1065353216 fd = 0 ∧
    (∀ w, fopV .mul .f32 (fop .mul .f32 1082130432 fd) (fop .sub .f32 1065353216 fd) w = fop .mul .f32 (fop .mul .f32 1082130432 fd) (fop .sub .f32 1065353216 fd)) ∧ fopN .mul .f32 (fop .mul .f32 1082130432 fd) (fop .sub .f32 1065353216 fd) = 0 ∧
    (∀ w, fopV .mul .f32 (fop .mul .f32 (fop .mul .f32 1082130432 fd) (fop .sub .f32 1065353216 fd)) (fop .sub .f32 1065353216 fd) w = pifT0 fd) ∧ fopN .mul .f32 (fop .mul .f32 (fop .mul .f32 1082130432 fd) (fop .sub .f32 1065353216 fd)) (fop .sub .f32 1065353216 fd) = 0 ∧ canon .f32 (pifT0 fd) = pifT fd := by
  have b0 := draw_bd h
  have b4 : Bd .f32 2 1082130432 := ⟨false, 8388608, -21, by decide +kernel, by unfold Le2; decide⟩
  have b1 : Bd .f32 0 1065353216 := ⟨false, 8388608, -23, one_decode, by unfold Le2; decide⟩
  have c1 : Bd .f32 2 (fop .mul .f32 1082130432 fd) := bd_mul (a := 2) (c := 0) fmt32 b4 b0 (by decide) (by decide)
  have c2 : Bd .f32 1 (fop .sub .f32 1065353216 fd) := bd_sub (a := 0) fmt32 b1 b0 (by decide) (by decide)
  have c3 : Bd .f32 3 (fop .mul .f32 (fop .mul .f32 1082130432 fd) (fop .sub .f32 1065353216 fd)) := bd_mul (a := 2) (c := 1) fmt32 c1 c2 (by decide) (by decide)
  have c4 : Bd .f32 4 (pifT0 fd) := bd_mul (a := 3) (c := 1) fmt32 c3 c2 (by decide) (by decide)
  refine ⟨(bd_sure c1).1, (bd_sure c1).2, (bd_sure c2).1, (bd_sure c2).2, (bd_sure c3).1, (bd_sure c3).2, (bd_sure c4).1, (bd_sure c4).2, ?_⟩
  rw [bd_canon c4]
  unfold pifT0 pifT
  rw [bd_canon b4, bd_canon b0, bd_canon b1]
set_option maxHeartbeats 8000000 in
set_option maxRecDepth 20000 in
theorem i_PowerInFarm (X Y : Option Addr) (cx cy : Nat) (fx fy : List Nat) (fr fd fs : Nat) (t sp dn : Nat) (w : World) (h : Rs w X Y fx fy) (hn : FewS fx fy) :
    Calls Try.prog 26 #[.agg #[.slice X fx.length cx, .slice Y fy.length cy, .float .f32 fr, .float .f32 fd, .float .f32 fs], .float .f32 t, .float .f32 sp, .float .f32 dn] w fun e w' => ∃ r, e = .returned (.tuple #[.float .f32 r, .bool (pifO fx fy fr fd fs t sp dn)]) ∧ canon .f32 r = canon .f32 (pifR fx fy fr fd fs t sp dn) ∧ Below w.heap.size w w' := by
  have HP := Lib.hid h; clear h
  have HNF := Lib.hid hn; clear hn
  obtain ⟨w0, hw0⟩ : ∃ z, z = (w.alloc (.cells #[.slice X fx.length cx, .slice Y fy.length cy, .float .f32 fr, .float .f32 fd, .float .f32 fs] 29)).alloc (.cells #[.float .f32 dn] 23) := ⟨_, rfl⟩
  have K0 : Hid (BlkL w0 w.heap.size [.slice X fx.length cx, .slice Y fy.length cy, .float .f32 fr, .float .f32 fd, .float .f32 fs]) := Lib.hid (by rw [hw0]; exact (blkL_at w #[.slice X fx.length cx, .slice Y fy.length cy, .float .f32 fr, .float .f32 fd, .float .f32 fs] _ rfl).alloc _)
  have S0 : Hid (BlkL w0 (w.heap.size + 1) [.float .f32 dn]) := Lib.hid (by rw [hw0]; exact blkL_at (w.alloc _) #[.float .f32 dn] _ (by simp))
  have B0 : Hid (Below w.heap.size w w0) := Lib.hid (by rw [hw0]; exact ((Below.refl _ _).alloc (Nat.le_refl _) _).alloc (by simp) _)
  obtain ⟨k0, k1, k2, k3, k4⟩ := K0.out.five
  go_enter Try.func26, Try.ntmps26
  go_upto_region 1 with fail
  rw [← hw0]
  clear hw0
  go_wp2_with fail
  refine (i_SpeedsInFarm X Y cx cy fx fy fr fd fs t sp _ ⟨HP.out.1.below B0.out, HP.out.2.below B0.out⟩ HNF.out).mono ?_
  rintro e w1 ⟨R1, c1, g1, rfl, ho, b1⟩
  clear k0 k1 k2 k3 k4
  have K1 := Lib.hid (K0.out.below b1)
  have S1 := Lib.hid (S0.out.below b1)
  have B1 : Hid (Below w.heap.size w w1) := Lib.hid (below_of B0.out B0.out.size b1)
  have HL1 := Lib.hid ho.fl
  clear b1 ho
  cases hv : sfwO fx fy fr fd fs t sp
  · have HN : Hid (pifO fx fy fr fd fs t sp dn = false) := Lib.hid (pifO_no hv)
    clear hv
    go_wp2
    refine bodyPost_ret (results_tmp2 rfl _ _ _) rfl ?_
    rw [pifR_no HN.out, HN.out]
    exact ⟨0, rfl, rfl, B1.out⟩
  · have HO := Lib.hid hv
    have HG := Lib.hid (sfwG_yes hv)
    have H3 := Lib.hid (sfwO_parts hv)
    clear hv
    rw [HG.out] at HL1
    rw [HG.out]
    have HLX : Hid ((sfwX fx fy fr fd fs t sp).length = fx.length) := Lib.hid (sfwX_length ..)
    obtain ⟨k0, k1, k2, k3, k4⟩ := K1.out.five
    have hdr : within fd 0 1056964608 = true := by
      obtain ⟨-, -, h3⟩ := frmV_parts H3.out.1
      unfold frmN at h3
      simp only [Bool.and_eq_true] at h3
      exact h3.2.2.2
    obtain ⟨t1, t2, s1, s2, u1, u2, v1, v2, hT⟩ := pifT_sure hdr
    have HT := Lib.hid hT
    clear hT hdr
    obtain ⟨VA, hVA⟩ : ∃ z, z = fopV .mul .f32 (fopV .mul .f32 1078530011 fr w1) fr (w1.drewN (fopN .mul .f32 1078530011 fr)) := ⟨_, rfl⟩
    have HVA : Hid (canon .f32 VA = pifA fr) := Lib.hid (by rw [hVA, canon_fopV, canon_fopV]; rfl)
    obtain ⟨w2, hw2⟩ : ∃ z, z = ((w1.drewN (fopN .mul .f32 1078530011 fr + fopN .mul .f32 (fopV .mul .f32 1078530011 fr w1) fr)).alloc (.cells #[.float .f32 0] 23)).setCell ⟨w1.heap.size, 0, none⟩ (.float .f32 VA) := ⟨_, rfl⟩
    have hbA : BlkL ((w1.drewN (fopN .mul .f32 1078530011 fr + fopN .mul .f32 (fopV .mul .f32 1078530011 fr w1) fr)).alloc (.cells #[.float .f32 0] 23)) w1.heap.size [.float .f32 0] := blkL_at (w1.drewN _) #[.float .f32 0] _ rfl
    have n1 := (hbA.2 0 _ rfl).1
    have n2 := (hbA.2 0 _ rfl).2
    have b2 : Below w1.heap.size w1 w2 := by rw [hw2]; exact ((below_draws (Below.refl _ _) _).alloc (Nat.le_refl _) _).setCell (p := ⟨w1.heap.size, 0, none⟩) (Nat.le_refl _) _
    have D2 : Hid (BlkL w2 w1.heap.size [.float .f32 VA]) := Lib.hid (by rw [hw2]; exact hbA.set (i := 0) (by simp) (.float .f32 VA))
    have K2 := Lib.hid (K1.out.below b2)
    have S2 := Lib.hid (S1.out.below b2)
    have HL2 := Lib.hid (HL1.out.below b2)
    have B2 : Hid (Below w.heap.size w w2) := Lib.hid (below_of B1.out B1.out.size b2)
    clear hbA b2
    go_upto_region 5 with fail
    rw [← hVA, ← hw2]
    clear hw2 hVA n1 n2 k0 k1 k2 k3 k4
    obtain ⟨k0, k1, k2, k3, k4⟩ := K2.out.five
    obtain ⟨w3, hw3⟩ : ∃ z, z = w2.alloc (.cells #[.float .f32 (pifT0 fd)] 23) := ⟨_, rfl⟩
    have b3 : Below w2.heap.size w2 w3 := by rw [hw3]; exact (Below.refl _ _).alloc (Nat.le_refl _) _
    have D3 : Hid (BlkL w3 w2.heap.size [.float .f32 (pifT0 fd)]) := Lib.hid (by rw [hw3]; exact blkL_at w2 #[.float .f32 (pifT0 fd)] _ rfl)
    have E3 := Lib.hid (D2.out.below b3)
    have S3 := Lib.hid (S2.out.below b3)
    have HL3 := Lib.hid (HL2.out.below b3)
    have B3 : Hid (Below w.heap.size w w3) := Lib.hid (below_of B2.out B2.out.size b3)
    clear b3
    go_upto_region 6 with fail
    rw [← hw3]
    clear hw3 k0 k1 k2 k3 k4 t1 t2 s1 s2 u1 u2 v1 v2
    have HSZ := Lib.hid (frmV_size H3.out.1)
    have HAT : Hid (∀ k, k < (sfwX fx fy fr fd fs t sp).length → ∀ wr, Below w3.heap.size w3 wr → Calls Try.prog 63 #[.float .f32 ((sfwX fx fy fr fd fs t sp).getD k 0), .pointer (some ⟨w.heap.size + 1, 0, none⟩), .pointer (some ⟨w1.heap.size, 0, none⟩), .pointer (some ⟨w2.heap.size, 0, none⟩)] wr fun e w' => ∃ r, e = .returned (.tuple #[.float .f32 r, .bool (powO dn (sfwQ fx fy fr fd fs t sp k))]) ∧ canon .f32 r = fop .mul .f32 (fop .mul .f32 (powR dn (sfwQ fx fy fr fd fs t sp k)) (pifA fr)) (pifT fd) ∧ Below wr.heap.size wr w') := Lib.hid (fun k hk wr hb => by
      have h := i_pifAt dn VA (pifT0 fd) ((sfwX fx fy fr fd fs t sp).getD k 0) (w.heap.size + 1) w1.heap.size w2.heap.size wr ((S3.out.below hb).2 0 _ rfl).1 ((E3.out.below hb).2 0 _ rfl).1 ((D3.out.below hb).2 0 _ rfl).1
      rw [HVA.out, HT.out, sfwX_at (by rw [← HLX.out]; exact hk)] at h
      rw [sfwX_at (by rw [← HLX.out]; exact hk)]
      exact h)
    have HPW := Lib.hid (i_powersOf_pf _ _ _ (fun k => fop .mul .f32 (fop .mul .f32 (powR dn (sfwQ fx fy fr fd fs t sp k)) (pifA fr)) (pifT fd)) (fun k => powO dn (sfwQ fx fy fr fd fs t sp k)) R1 c1 (sfwX fx fy fr fd fs t sp) w3 HL3.out (by rw [HLX.out]; have := HSZ.out; omega) HAT.out)
    go_wp2_with fail
    refine HPW.out.mono ?_
    rintro e w4 ⟨A4, c4, g4, ys, rfl, ho4, hn4, hy4, b4⟩
    rw [HLX.out] at hn4 hy4
    rw [HLX.out]
    have HFL := Lib.hid ho4.fl
    have HN4 := Lib.hid hn4
    have HY4 := Lib.hid hy4
    have B4 : Hid (Below w.heap.size w w4) := Lib.hid (below_of B3.out B3.out.size b4)
    clear ho4 hn4 hy4 b4
    have HYL : Hid (ys.length ≤ 256) := Lib.hid (by
      cases ha : alls (fun k => powO dn (sfwQ fx fy fr fd fs t sp k)) fx.length
      · rw [HN4.out ha]; simp
      · rw [(HY4.out ha).1]; have := HSZ.out; omega)
    have HPO := Lib.hid (pif_alls (dn := dn) HO.out)
    go_wp2_with fail
    refine (i_sumOfPowers A4 c4 ys _ _ HFL.out HYL.out).mono ?_
    rintro e w5 ⟨r, rfl, hr, b5⟩
    have B5 : Hid (Below w.heap.size w w5) := Lib.hid (below_of B4.out B4.out.size b5)
    have HR := Lib.hid hr
    clear b5 hr
    go_wp2
    refine bodyPost_ret (results_tmp2 rfl _ _ _) rfl ?_
    have hr := HR.out
    cases ha : alls (fun k => powO dn (sfwQ fx fy fr fd fs t sp k)) fx.length
    · have ho : pifO fx fy fr fd fs t sp dn = false := by rw [HPO.out, ha]; rfl
      rw [ha] at hr
      rw [pifR_no ho, ho]
      exact ⟨r, by simp, by rw [hr, if_neg (by decide), canon_zero], B5.out⟩
    · obtain ⟨hl, hq⟩ := HY4.out ha
      have hs := pif_sum ha hq
      rw [ha, hl, hs] at hr
      have ho := HPO.out
      rw [ha, Bool.true_and] at ho
      refine ⟨r, by rw [ho]; simp [hl, hs], ?_, B5.out⟩
      rw [hr]
      unfold pifR onlyN
      rw [ho]
      cases hf : fin .f32 (sumK (pifL fx fy fr fd fs t sp dn) fx.length)
      · simp [canon_zero]
      · simp only [if_true]
        exact (canon_sumKP _ _).symm
end Go.Proofs.Ytjmhfhoohlgbiaa
namespace Go.Proofs.Ytjmhfhoohlgbiaa
open Go Go.RowKit
def pifA0 (fr : Nat) : Nat := fop .mul .f32 (fop .mul .f32 1078530011 fr) fr
theorem rad_bd {r : Nat} (h1 : posi r = true) (h2 : leq32 r 1148846080 = true) : Bd .f32 10 r := by
  obtain ⟨m, i, hd, -⟩ := posi_num h1
  have c2 : FloatKind.f32.decode 1148846080 = .number false 16384000 (-14) := by decide +kernel
  unfold leq32 at h2
  rw [order_numbers hd c2, cmp_lt, cmp_eq] at h2
  simp only [Ieee.signed, Bool.false_eq_true, if_false, Nat.shiftLeft_eq, Bool.or_eq_true, decide_eq_true_eq] at h2
  refine ⟨false, m, i, hd, ?_⟩
  have hb : m * 2 ^ (i - min i (-14)).toNat ≤ 16384000 * 2 ^ (-14 - min i (-14)).toNat := by
    generalize m * 2 ^ (i - min i (-14)).toNat = A at h2 ⊢
    generalize 16384000 * 2 ^ (-14 - min i (-14)).toNat = B at h2 ⊢
    omega
  have h3 : 16384000 * 2 ^ (-14 - min i (-14)).toNat ≤ 2 ^ (10 - min i (-14)).toNat := by
    rw [show (10 - min i (-14)).toNat = 24 + (-14 - min i (-14)).toNat by omega, Nat.pow_add]
    exact Nat.mul_le_mul_right _ (by decide)
  have h4 : Le2 (m * 2 ^ (i - min i (-14)).toNat) (min i (-14)) 10 := ⟨Nat.le_trans hb h3, fun h => by omega⟩
  rw [← le2_shift (i - min i (-14)).toNat, show i - ((i - min i (-14)).toNat : Int) = min i (-14) by omega]
  exact h4
theorem pifA_sure {fr : Nat} (h1 : posi fr = true) (h2 : leq32 fr 1148846080 = true) :
    (∀ w, fopV .mul .f32 1078530011 fr w = fop .mul .f32 1078530011 fr) ∧ fopN .mul .f32 1078530011 fr = 0 ∧
    (∀ w, fopV .mul .f32 (fop .mul .f32 1078530011 fr) fr w = pifA0 fr) ∧ fopN .mul .f32 (fop .mul .f32 1078530011 fr) fr = 0 ∧ canon .f32 (pifA0 fr) = pifA fr := by
  have b0 := rad_bd h1 h2
  have b4 : Bd .f32 2 1078530011 := ⟨false, 13176795, -22, by decide +kernel, by unfold Le2; decide⟩
  have c1 : Bd .f32 12 (fop .mul .f32 1078530011 fr) := bd_mul (a := 2) (c := 10) fmt32 b4 b0 (by decide) (by decide)
  have c2 : Bd .f32 22 (pifA0 fr) := bd_mul (a := 12) (c := 10) fmt32 c1 b0 (by decide) (by decide)
  refine ⟨(bd_sure c1).1, (bd_sure c1).2, (bd_sure c2).1, (bd_sure c2).2, ?_⟩
  rw [bd_canon c2]
  unfold pifA0 pifA
  rw [bd_canon b4, bd_canon b0]
set_option maxHeartbeats 8000000 in
set_option maxRecDepth 20000 in
theorem s_l06Power (X Y : Option Addr) (cx cy : Nat) (fx fy : List Nat) (fr fd fs : Nat) (B t sp dn : Nat) (w : World) (h : Rs w X Y fx fy) (hn : FewS fx fy) (hk : BlkL w B [.slice X fx.length cx, .slice Y fy.length cy, .float .f32 fr, .float .f32 fd, .float .f32 fs]) (ho : sfwO fx fy fr fd fs t sp = true) :
    Calls Try.prog 60 #[.pointer (some ⟨B, 0, none⟩), .float .f32 t, .float .f32 sp, .float .f32 dn] w fun e w' => ∃ r, e = .returned (.float .f32 r) ∧ canon .f32 r = sumK (pifL fx fy fr fd fs t sp dn) fx.length ∧ Below w.heap.size w w' := by
  have HP := Lib.hid h
  have HNF := Lib.hid hn
  have HK := Lib.hid hk
  have H3 := Lib.hid (sfwO_parts ho)
  clear h hn hk ho
  have hN : frmN fr fd fs = true := (frmV_parts H3.out.1).2.2
  unfold frmN at hN
  simp only [Bool.and_eq_true] at hN
  obtain ⟨a1, a2, a3, a4, hA⟩ := pifA_sure hN.1 hN.2.1
  obtain ⟨t1, t2, s1, s2, u1, u2, v1, v2, hT⟩ := pifT_sure hN.2.2.2
  have HA := Lib.hid hA
  have HT := Lib.hid hT
  have HSZ := Lib.hid (frmV_size H3.out.1)
  have HLX : Hid ((sfwX fx fy fr fd fs t sp).length = fx.length) := Lib.hid (sfwX_length ..)
  have HLA : Hid (∀ k, k < fx.length → canon .f32 ((pifL fx fy fr fd fs t sp dn).getD k 0) = fop .mul .f32 (fop .mul .f32 (powV dn (sfwQ fx fy fr fd fs t sp k)) (pifA fr)) (pifT fd)) := Lib.hid (fun k hk => by rw [pifL_at hk]; unfold pifQ; rw [canon_fop])
  clear hN hA hT
  obtain ⟨k0, k1, k2, k3, k4⟩ := HK.out.five
  go_enter Try.func60, Try.ntmps60
  go_wp2
  go_quiet (fail)
  go_wp2
  go_quiet (fail)
  go_wp2_with fail
  clear a1 a2 a3 a4 t1 t2 s1 s2 u1 u2 v1 v2 k0 k1 k2 k3 k4
  refine (s_l06Speeds X Y cx cy fx fy fr fd fs B t sp _ ⟨HP.out.1.below (below_draws (Below.refl _ _) _), HP.out.2.below (below_draws (Below.refl _ _) _)⟩ HNF.out (HK.out.below (below_draws (Below.refl _ _) _)) H3.out.1 H3.out.2.1 H3.out.2.2).mono ?_
  rintro e w1 ⟨R1, c1, g1, rfl, ho1, b1⟩
  rw [HLX.out]
  have B1 : Hid (Below w.heap.size w w1) := Lib.hid (below_of (below_draws (Below.refl _ _) _) (Nat.le_refl _) b1)
  have HL := Lib.hid ho1.fl
  clear ho1 b1
  obtain ⟨bs, os, rfl, -, -⟩ := HL.out.at_ (k := 0) (by rw [HLX.out]; have := HSZ.out; omega)
  have hs16 := HSZ.out.2.1
  go_wp2
  go_loopw [12, 13] (fun s i wr => ∃ (k n r : Nat), k ≤ fx.length ∧ i = .int .i64 k ∧ s = .float .f32 r ∧ Hid (canon .f32 r = sumK (pifL fx fy fr fd fs t sp dn) k) ∧ wr = w1.drewN n) (fun _ i _ => fx.length - (intOf i).toNat)
  case atStart => exact ⟨0, 0, 0, Nat.zero_le _, rfl, rfl, Lib.hid canon_zero, rfl⟩
  case round =>
    obtain ⟨k, n, r, hk, rfl, rfl, HS, rfl⟩ := hrel
    by_cases hlt : k < fx.length
    · have hc : (w1.drewN n).cell? ⟨bs, os + k, none⟩ = some (.float .f32 ((sfwX fx fy fr fd fs t sp).getD k 0)) := (HL.out.draws n).same rfl (by rw [HLX.out]; exact hlt)
      rw [sfwX_at hlt] at hc
      have HQ := Lib.hid (HLA.out k hlt)
      generalize sfwQ fx fy fr fd fs t sp k = x at hc HQ
      go_wp2_with fail
      refine (s_l04Power dn x _).mono ?_
      rintro e w2 ⟨p, m, rfl, hp, rfl⟩
      have HPW := Lib.hid hp
      clear hp hc
      go_wp2
      go_roundw
      case rel => exact ⟨k + 1, _, _, by omega, by go_num, rfl, Lib.hid (by simp only [canon_fopV, sumK, HS.out, HPW.out, HA.out, HT.out, HQ.out]), by first | rfl | (simp only [World.drewN_drewN]; rfl)⟩
      case measure => simp [intOf]; omega
    · have hkk : k = fx.length := by omega
      subst hkk
      go_wp2
      go_ret
      exact ⟨r, rfl, HS.out, below_draws B1.out _⟩
set_option maxHeartbeats 4000000 in
theorem s_PowerInFarm (X Y : Option Addr) (cx cy : Nat) (fx fy : List Nat) (fr fd fs : Nat) (t sp dn : Nat) (w : World) (h : Rs w X Y fx fy) (hn : FewS fx fy) :
    Calls Try.prog 25 #[.agg #[.slice X fx.length cx, .slice Y fy.length cy, .float .f32 fr, .float .f32 fd, .float .f32 fs], .float .f32 t, .float .f32 sp, .float .f32 dn] w fun e w' => ∃ r, e = .returned (.tuple #[.float .f32 r, .bool (pifO fx fy fr fd fs t sp dn)]) ∧ canon .f32 r = canon .f32 (pifR fx fy fr fd fs t sp dn) ∧ Below w.heap.size w w' := by
  have HP := Lib.hid h; clear h
  have HNF := Lib.hid hn; clear hn
  obtain ⟨w0, hw0⟩ : ∃ z, z = w.alloc (.cells #[.slice X fx.length cx, .slice Y fy.length cy, .float .f32 fr, .float .f32 fd, .float .f32 fs] 29) := ⟨_, rfl⟩
  have K0 : Hid (BlkL w0 w.heap.size [.slice X fx.length cx, .slice Y fy.length cy, .float .f32 fr, .float .f32 fd, .float .f32 fs]) := Lib.hid (by rw [hw0]; exact blkL_at w #[.slice X fx.length cx, .slice Y fy.length cy, .float .f32 fr, .float .f32 fd, .float .f32 fs] _ rfl)
  have B0 : Hid (Below w.heap.size w w0) := Lib.hid (by rw [hw0]; exact (Below.refl _ _).alloc (Nat.le_refl _) _)
  go_enter Try.func25, Try.ntmps25
  go_wp2_with fail
  rw [← hw0]
  clear hw0
  refine (s_l06Blown X Y cx cy fx fy fr fd fs w.heap.size t sp _ ⟨HP.out.1.below B0.out, HP.out.2.below B0.out⟩ HNF.out K0.out).mono ?_
  rintro e w1 ⟨rfl, n1, hw⟩
  have b1 : Below w0.heap.size w0 w1 := by rw [hw]; exact below_draws (Below.refl _ _) _
  clear hw
  have K1 := Lib.hid (K0.out.below b1)
  have B1 : Hid (Below w.heap.size w w1) := Lib.hid (below_of B0.out B0.out.size b1)
  clear b1
  cases ho : sfwO fx fy fr fd fs t sp
  · have HN : Hid (pifO fx fy fr fd fs t sp dn = false) := Lib.hid (pifO_no ho)
    clear ho
    go_wp2
    refine bodyPost_ret (results_tmp2 rfl _ _ _) rfl ?_
    rw [pifR_no HN.out, HN.out]
    exact ⟨0, rfl, rfl, B1.out⟩
  · have HO := Lib.hid ho
    clear ho
    go_wp2_with fail
    refine (s_l02Least _ _).mono ?_
    rintro e w2 ⟨n2, rfl, hw⟩
    have b2 : Below w1.heap.size w1 w2 := by rw [hw]; exact below_draws (Below.refl _ _) _
    clear hw
    have K2 := Lib.hid (K1.out.below b2)
    have B2 : Hid (Below w.heap.size w w2) := Lib.hid (below_of B1.out B1.out.size b2)
    clear b2
    cases hd : amount dn
    · have HN : Hid (pifO fx fy fr fd fs t sp dn = false) := Lib.hid (by unfold pifO; rw [hd]; simp)
      clear hd
      go_wp2
      refine bodyPost_ret (results_tmp2 rfl _ _ _) rfl ?_
      rw [pifR_no HN.out, HN.out]
      exact ⟨0, rfl, rfl, B2.out⟩
    · have HPO : Hid (pifO fx fy fr fd fs t sp dn = fin .f32 (sumK (pifL fx fy fr fd fs t sp dn) fx.length)) := Lib.hid (by unfold pifO; rw [HO.out, hd]; simp)
      clear hd
      go_wp2_with fail
      refine (s_l06Power X Y cx cy fx fy fr fd fs w.heap.size t sp dn _ ⟨HP.out.1.below B2.out, HP.out.2.below B2.out⟩ HNF.out K2.out HO.out).mono ?_
      rintro e w3 ⟨r, rfl, hr, b3⟩
      have HR := Lib.hid hr
      have B3 : Hid (Below w.heap.size w w3) := Lib.hid (below_of B2.out B2.out.size b3)
      clear hr b3
      go_wp2_with fail
      refine (s_l02NumberC r _ _ HR.out).mono ?_
      rintro e w4 ⟨r2, n4, rfl, hr2, hw⟩
      have HR2 := Lib.hid hr2
      have B4 : Hid (Below w.heap.size w w4) := Lib.hid (by rw [hw]; exact below_draws B3.out _)
      clear hr2 hw
      go_wp2
      refine bodyPost_ret (results_tmp2 rfl _ _ _) rfl ?_
      refine ⟨r2, by rw [HPO.out]; rfl, ?_, B4.out⟩
      rw [HR2.out]
      unfold pifR onlyN
      rw [HPO.out]
      cases hf : fin .f32 (sumK (pifL fx fy fr fd fs t sp dn) fx.length)
      · simp [canon_zero]
      · simp only [if_true]
        exact (canon_sumKP _ _).symm
end Go.Proofs.Ytjmhfhoohlgbiaa
