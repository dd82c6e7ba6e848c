/- Profiles that are mirrored: numbers of the other sign, and lists that are turned round. No statement is proved here. -/
import Derived.Test.YtplofbkollhjpaaPgr
import Derived.Test.YtplofbkollhjpaaSin
import Derived.RegionTactic
import Derived.BigRegion
namespace Go.Proofs.Ytplofbkollhjpaa
open Go Go.RowKit
theorem signed_not (s : Bool) (m k : Nat) : Ieee.signed (!s) m k = -Ieee.signed s m k := by
  unfold Ieee.signed
  cases s <;> simp
theorem compare_neg (p q : Int) : compare (-p) (-q) = compare q p := by
  simp only [compare, compareOfLessAndEq]
  by_cases h1 : q < p
  · rw [if_pos h1, if_pos (by omega)]
  · by_cases h2 : q = p
    · rw [if_neg h1, if_pos h2, if_neg (by omega), if_pos (by omega)]
    · rw [if_neg h1, if_neg h2, if_neg (by omega), if_neg (by omega)]
theorem order_opp (x y : Ieee.Datum) : x.opposite.order y.opposite = y.order x := by
  cases x with
  | nan s f => cases y <;> rfl
  | infinity s =>
    cases y with
    | nan t f => rfl
    | infinity t => cases s <;> cases t <;> rfl
    | number t n j => cases s <;> rfl
  | number s m i =>
    cases y with
    | nan t f => rfl
    | infinity t => cases t <;> rfl
    | number t n j =>
      simp only [Ieee.Datum.opposite, Ieee.Datum.order]
      rw [Int.min_comm j i]
      rw [signed_not, signed_not, compare_neg]
theorem order_neg (x y : Nat) : FloatKind.f32.format.order (Op.negFloat .f32 x) (Op.negFloat .f32 y) = FloatKind.f32.format.order y x := by
  unfold Ieee.Format.order
  have h1 := read_neg .f32 x
  have h2 := read_neg .f32 y
  unfold FloatKind.decode at h1 h2
  rw [h1, h2]
  exact order_opp _ _
theorem order_swapM (x y : Nat) : FloatKind.f32.format.order x y = (FloatKind.f32.format.order y x).map Ordering.swap := by
  unfold Ieee.Format.order
  generalize FloatKind.f32.format.read x = a
  generalize FloatKind.f32.format.read y = b
  cases a with
  | nan s f => cases b <;> rfl
  | infinity s => cases b with
    | nan t f => rfl
    | infinity t => cases s <;> cases t <;> rfl
    | number t n j => cases s <;> rfl
  | number s m i => cases b with
    | nan t f => rfl
    | infinity t => cases t <;> rfl
    | number t n j =>
      simp only [Ieee.Datum.order, Option.map_some, Option.some.injEq]
      rw [Int.min_comm j i]
      exact (Int.compare_swap _ _).symm
theorem fin_neg (x : Nat) : fin .f32 (Op.negFloat .f32 x) = fin .f32 x := by
  unfold fin; rw [read_neg]; cases FloatKind.f32.decode x <;> rfl
theorem within_neg (x : Nat) : within (Op.negFloat .f32 x) 3204448256 1056964608 = within x 3204448256 1056964608 := by
  have e1 : (3204448256 : Nat) = Op.negFloat .f32 1056964608 := by decide +kernel
  have e2 : (1056964608 : Nat) = Op.negFloat .f32 3204448256 := by decide +kernel
  have g : geq32 (Op.negFloat .f32 x) 3204448256 = leq32 x 1056964608 := by
    unfold geq32 leq32
    rw [e1, order_neg]
    rw [order_swapM 1056964608 x]
    cases FloatKind.f32.format.order x 1056964608 with
    | none => rfl
    | some o => cases o <;> rfl
  have l : leq32 (Op.negFloat .f32 x) 1056964608 = geq32 x 3204448256 := by
    unfold geq32 leq32
    rw [e2, order_neg]
    rw [order_swapM 3204448256 x]
    cases FloatKind.f32.format.order x 3204448256 with
    | none => rfl
    | some o => cases o <;> rfl
  unfold within
  rw [g, l, Bool.and_comm]
def mirA (xs : List Nat) : List Nat := (List.range xs.length).map fun k => Op.negFloat .f32 (xs.getD (xs.length - 1 - k) 0)
def mirD (xs : List Nat) : List Nat := (List.range xs.length).map fun k => xs.getD (xs.length - 1 - k) 0
theorem mirA_length (xs : List Nat) : (mirA xs).length = xs.length := by simp [mirA]
theorem mirD_length (xs : List Nat) : (mirD xs).length = xs.length := by simp [mirD]
theorem mirA_at {xs : List Nat} {k : Nat} (h : k < xs.length) : (mirA xs).getD k 0 = Op.negFloat .f32 (xs.getD (xs.length - 1 - k) 0) := by simp [mirA, List.getD, h]
theorem mirD_at {xs : List Nat} {k : Nat} (h : k < xs.length) : (mirD xs).getD k 0 = xs.getD (xs.length - 1 - k) 0 := by simp [mirD, List.getD, h]
theorem angs_all {xs : List Nat} : ∀ {n : Nat}, (∀ k, k < n → angStep xs k = true) → angs xs n = true := by
  intro n
  induction n with
  | zero => intro _; rfl
  | succ n ih => intro h; simp only [angs, ih (fun k hk => h k (by omega)), h n (by omega), Bool.and_true]
theorem fins_all {xs : List Nat} : ∀ {n : Nat}, (∀ k, k < n → fin .f32 (xs.getD k 0) = true) → fins xs n = true := by
  intro n
  induction n with
  | zero => intro _; rfl
  | succ n ih => intro h; simp only [fins, ih (fun k hk => h k (by omega)), h n (by omega), Bool.and_true]
theorem amts_all {xs : List Nat} : ∀ {n : Nat}, (∀ k, k < n → amount (xs.getD k 0) = true) → amts xs n = true := by
  intro n
  induction n with
  | zero => intro _; rfl
  | succ n ih => intro h; simp only [amts, ih (fun k hk => h k (by omega)), h n (by omega), Bool.and_true]
theorem angs_get {xs : List Nat} : ∀ {n : Nat}, angs xs n = true → ∀ k, k < n → angStep xs k = true := by
  intro n
  induction n with
  | zero => intro _ k hk; omega
  | succ n ih =>
    intro h k hk
    simp only [angs, Bool.and_eq_true] at h
    by_cases e : k = n
    · rw [e]; exact h.2
    · exact ih h.1 k (by omega)
theorem fins_get {xs : List Nat} : ∀ {n : Nat}, fins xs n = true → ∀ k, k < n → fin .f32 (xs.getD k 0) = true := by
  intro n
  induction n with
  | zero => intro _ k hk; omega
  | succ n ih =>
    intro h k hk
    simp only [fins, Bool.and_eq_true] at h
    by_cases e : k = n
    · rw [e]; exact h.2
    · exact ih h.1 k (by omega)
theorem amts_get {xs : List Nat} : ∀ {n : Nat}, amts xs n = true → ∀ k, k < n → amount (xs.getD k 0) = true := by
  intro n
  induction n with
  | zero => intro _ k hk; omega
  | succ n ih =>
    intro h k hk
    simp only [amts, Bool.and_eq_true] at h
    by_cases e : k = n
    · rw [e]; exact h.2
    · exact ih h.1 k (by omega)
/-- what is mirrored is valid -/
theorem validP_mir {a l d : List Nat} (h : validP a l d = true) : validP (mirA a) (mirA l) (mirD d) = true := by
  obtain ⟨s1, s2, s3, s4⟩ := sized_of h
  rw [validP_yes ⟨s1, s2, s3, s4⟩] at h
  simp only [Bool.and_eq_true] at h
  obtain ⟨h1, h2, h3⟩ := h
  rw [validP_yes (by unfold sized; rw [mirA_length, mirA_length, mirD_length]; omega), mirA_length, mirA_length, mirD_length]
  rw [angs_all (fun k hk => ?_), fins_all (fun k hk => ?_), amts_all (fun k hk => ?_)]
  · rfl
  · rw [mirD_at hk]; exact amts_get h3 _ (by omega)
  · rw [mirA_at hk, fin_neg]; exact fins_get h2 _ (by omega)
  · have g := angs_get h1 (a.length - 1 - k) (by omega)
    unfold angStep at g ⊢
    rw [mirA_at hk, within_neg]
    rw [Bool.and_eq_true] at g
    rw [g.1, Bool.true_and]
    by_cases e : k = 0
    · rw [e]; rfl
    · have g2 := angs_get h1 (a.length - 1 - (k - 1)) (by omega)
      unfold angStep at g2
      rw [Bool.and_eq_true] at g2
      have g3 := g2.2
      rw [mirA_at (by omega), show (k == 0) = false by simpa using e, Bool.false_or]
      rw [show (a.length - 1 - (k - 1) == 0) = false by simp; omega, Bool.false_or, show a.length - 1 - (k - 1) - 1 = a.length - 1 - k by omega] at g3
      unfold leq32 at g3 ⊢
      rw [order_neg]
      exact g3
/-- k numbers of either end have changed their places -/
def revK (xs : List Nat) (k : Nat) : List Nat := (List.range xs.length).map fun t => if t < k ∨ xs.length - 1 - t < k then xs.getD (xs.length - 1 - t) 0 else xs.getD t 0
theorem revK_length (xs : List Nat) (k : Nat) : (revK xs k).length = xs.length := by simp [revK]
theorem revK_at {xs : List Nat} {k t : Nat} (h : t < xs.length) : (revK xs k).getD t 0 = if t < k ∨ xs.length - 1 - t < k then xs.getD (xs.length - 1 - t) 0 else xs.getD t 0 := by simp [revK, List.getD, h]
theorem revK_zero (xs : List Nat) : revK xs 0 = xs := by
  apply List.ext_getElem (revK_length _ _)
  intro t h1 h2
  have := revK_at (k := 0) h2
  rw [if_neg (by omega)] at this
  simpa [List.getD, h1, h2] using this
theorem revK_end {xs : List Nat} {k : Nat} (h : xs.length ≤ 2 * k + 1) : revK xs k = mirD xs := by
  apply List.ext_getElem (by rw [revK_length, mirD_length])
  intro t h1 h2
  have hl : t < xs.length := by rw [revK_length] at h1; exact h1
  have e1 := revK_at (k := k) hl
  have e2 := mirD_at hl
  have e3 : (revK xs k).getD t 0 = (mirD xs).getD t 0 := by
    rw [e1, e2]
    by_cases hc : t < k ∨ xs.length - 1 - t < k
    · rw [if_pos hc]
    · rw [if_neg hc, show xs.length - 1 - t = t by omega]
  simpa [List.getD, h1, h2] using e3
theorem Own.put {w : World} {B k x : Nat} {xs : List Nat} (h : Own w B xs) (hk : k < xs.length) : Own (w.setCell ⟨B, k, none⟩ (.float .f32 x)) B (xs.set k x) := by
  refine ⟨by simpa [World.setCell] using h.1, fun j hj => ?_⟩
  rw [List.length_set] at hj
  have e : (xs.set k x).getD j 0 = if k = j then x else xs.getD j 0 := by
    rw [List.getD_eq_getElem?_getD, List.getD_eq_getElem?_getD, List.getElem?_set]
    split
    · rename_i h; subst h; first | rfl | (rw [if_pos hk]; rfl)
    · rfl
  rw [e]
  refine ⟨?_, by rw [World.frozen?_setCell]; exact (h.2 j hj).2⟩
  by_cases hkj : k = j
  · subst hkj; rw [if_pos rfl, World.cell?_setCell_same (h := (h.2 k hk).1)]
  · rw [if_neg hkj, World.cell?_setCell_other (h := by intro hh; simp only [Addr.mk.injEq] at hh; omega)]; exact (h.2 j hj).1
theorem revK_step {xs : List Nat} {k : Nat} (h : k < xs.length - 1 - k) : ((revK xs k).set k (xs.getD (xs.length - 1 - k) 0)).set (xs.length - 1 - k) (xs.getD k 0) = revK xs (k + 1) := by
  apply List.ext_getElem (by simp [revK_length])
  intro t h1 h2
  have hl : t < xs.length := by rw [revK_length] at h2; exact h2
  have e2 := revK_at (k := k + 1) hl
  have e1 := revK_at (k := k) hl
  have g2 : (revK xs (k + 1)).getD t 0 = (revK xs (k + 1))[t] := by simp [List.getD, h2]
  have h3 : t < (revK xs k).length := by rw [revK_length]; exact hl
  have g1 : (revK xs k).getD t 0 = (revK xs k)[t] := by simp [List.getD, h3]
  rw [← g2, e2, List.getElem_set, List.getElem_set, ← g1, e1]
  by_cases ha : xs.length - 1 - k = t
  · rw [if_pos ha, if_pos (by omega), show xs.length - 1 - t = k by omega]
  · rw [if_neg ha]
    by_cases hb : k = t
    · rw [if_pos hb, if_pos (by omega), hb]
    · rw [if_neg hb]
      by_cases hc : t < k ∨ xs.length - 1 - t < k
      · rw [if_pos hc, if_pos (by omega)]
      · rw [if_neg hc, if_neg (by omega)]
theorem revK_lo {xs : List Nat} {k : Nat} (h : k < xs.length - 1 - k) : (revK xs k).getD k 0 = xs.getD k 0 := by rw [revK_at (by omega), if_neg (by omega)]
theorem revK_hi {xs : List Nat} {k : Nat} (h : k < xs.length - 1 - k) : (revK xs k).getD (xs.length - 1 - k) 0 = xs.getD (xs.length - 1 - k) 0 := by rw [revK_at (by omega), if_neg (by omega)]
set_option maxHeartbeats 8000000 in
set_option maxRecDepth 20000 in
theorem lib_ReverseP (g n cap : Nat) (xs : List Nat) (w : World) (h : Own w g xs) (hl : xs.length = n) (h2 : 2 ≤ n) (hn : n ≤ 1048576) :
    Calls Try.prog 77 #[.slice (some ⟨g, 0, none⟩) n cap] w fun e w' => e = .returned (.tuple #[]) ∧ Own w' g (mirD xs) ∧ Turn w w' (fun b => b = g) := by
  have HO := Lib.hid h; clear h
  have HL := Lib.hid hl; clear hl
  go_enter Try.func77, Try.ntmps77
  go_wp2
  go_loopw [2, 3] (fun i j wr => ∃ k : Nat, 2 * k ≤ n ∧ i = .int .i64 k ∧ j = .int .i64 ((n - 1 - k : Nat) : Int) ∧ Hid (Own wr g (revK xs k)) ∧ Hid (Turn w wr (fun b => b = g))) (fun i _ _ => n - (intOf i).toNat)
  case atStart => exact ⟨0, by omega, rfl, by first | rfl | exact congrArg (Value.int IntKind.i64) (by omega), Lib.hid (by rw [revK_zero]; exact HO.out), Lib.hid (Turn.refl _ _)⟩
  case round =>
    obtain ⟨k, hk, rfl, rfl, HK, HT⟩ := hrel
    obtain ⟨m, hm⟩ : ∃ m, m = n - 1 - k := ⟨_, rfl⟩
    rw [← hm]
    by_cases hlt : k < m
    · have hkn : k < n := by omega
      have hmn : m < n := by omega
      have hx : k < xs.length - 1 - k := by have := HL.out; omega
      have hmx : m = xs.length - 1 - k := by have := HL.out; omega
      have hck := HK.out.2 k (by rw [revK_length, HL.out]; exact hkn)
      have hcm := HK.out.2 m (by rw [revK_length, HL.out]; exact hmn)
      rw [revK_lo hx] at hck
      rw [hmx, revK_hi hx, ← hmx] at hcm
      have HS : Hid (∀ W, Own W g (revK xs k) → Own ((W.setCell ⟨g, k, none⟩ (.float .f32 (xs.getD m 0))).setCell ⟨g, m, none⟩ (.float .f32 (xs.getD k 0))) g (revK xs (k + 1))) := Lib.hid (fun W hW => by
        have h1 := (hW.put (x := xs.getD m 0) (by rw [revK_length, HL.out]; exact hkn)).put (k := m) (x := xs.getD k 0) (by rw [List.length_set, revK_length, HL.out]; exact hmn)
        rw [hmx, revK_step hx] at h1
        rw [hmx]; exact h1)
      clear hx hmx
      have HM := Lib.hid hm
      clear hm
      generalize xs.getD k 0 = x at hck HS
      generalize xs.getD m 0 = y at hcm HS
      obtain ⟨c1, f1⟩ := hck
      obtain ⟨c2, f2⟩ := hcm
      have hkm : k ≠ m := by omega
      have hw1 : IntKind.i64.wrap ((m : Int) - 1) = ((m - 1 : Nat) : Int) := by rw [IntWalk.i64_in _ (by omega)]; omega
      go_wp2
      go_region
      all_goals
        clear c1 c2 f1 f2
        go_wp2
        go_roundw
        case rel => exact ⟨k + 1, by have := HM.out; omega, by go_num, congrArg (Value.int IntKind.i64) (by have := HM.out; omega), Lib.hid (HS.out wr HK.out), Lib.hid (HT.out.trans (((Turn.set wr (B := g) ⟨g, k, none⟩ rfl _).trans (Turn.set _ (B := g) ⟨g, m, none⟩ rfl _)).trans (Turn.draws _ 1 _)))⟩
        case measure => simp [intOf]; omega
    · have hend : xs.length ≤ 2 * k + 1 := by have := HL.out; omega
      have HR : Hid (Own wr g (mirD xs)) := Lib.hid (by rw [← revK_end hend]; exact HK.out)
      clear hend
      go_wp2
      exact bodyPost_end (v := .tuple #[]) (by simp [results, Try.results77, go_sem]) rfl ⟨rfl, HR.out, HT.out⟩
end Go.Proofs.Ytplofbkollhjpaa
