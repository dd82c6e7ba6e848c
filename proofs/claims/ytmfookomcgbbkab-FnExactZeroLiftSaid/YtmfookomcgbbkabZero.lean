/- Where lifts rise through nothing. No statement is proved here. -/
import Derived.Test.YtmfookomcgbbkabSpan
namespace Go.Proofs.Ytmfookomcgbbkab
open Go Go.RowKit

def zAt (l : List Nat) (k : Nat) : Bool := leq32 (l.getD k 0) 0 && gtr32 (l.getD (k + 1) 0) 0
def zF (l : List Nat) : Nat → Option Nat
  | 0 => none
  | n + 1 => match zF l n with
    | some k => some k
    | none => if zAt l n then some n else none
theorem zF_none {l : List Nat} : ∀ n, (∀ j, j < n → zAt l j = false) → zF l n = none := by
  intro n; induction n with
  | zero => intro _; rfl
  | succ n ih => intro h; unfold zF; rw [ih (fun j hj => h j (by omega))]; simp [h n (by omega)]
theorem zF_hit {l : List Nat} {k : Nat} (h : ∀ j, j < k → zAt l j = false) (hk : zAt l k = true) : ∀ n, k < n → zF l n = some k := by
  intro n; induction n with
  | zero => intro h; omega
  | succ n ih =>
    intro hn
    unfold zF
    by_cases e : k = n
    · subst e; rw [zF_none k h]; simp [hk]
    · rw [ih (by omega)]
def zV (a l : List Nat) (k : Nat) : Nat :=
  fop .add .f32 (canon .f32 (a.getD k 0)) (fop .mul .f32 (canon .f32 (fop .sub .f32 (a.getD (k + 1) 0) (a.getD k 0))) (fop .quo .f32 (canon .f32 (l.getD k 0)) (fop .sub .f32 (canon .f32 (l.getD k 0)) (canon .f32 (l.getD (k + 1) 0)))))
def zO (a l d : List Nat) : Bool := validP a l d && match zF l (a.length - 1) with
  | some k => fin .f32 (zV a l k)
  | none => false
def zR (a l d : List Nat) : Nat := if validP a l d then match zF l (a.length - 1) with
  | some k => onlyN (zV a l k)
  | none => 0
  else 0
theorem ang_sub {a : List Nat} {k : Nat} (h : angs a a.length = true) (hk : k + 1 < a.length) : (∀ w, fopV .sub .f32 (a.getD (k + 1) 0) (a.getD k 0) w = fop .sub .f32 (a.getD (k + 1) 0) (a.getD k 0)) ∧ fopN .sub .f32 (a.getD (k + 1) 0) (a.getD k 0) = 0 := by
  have hb : ∀ j, j < a.length → Bd .f32 (-1) (a.getD j 0) := fun j hj => key_bd (within_fin (ang_within h hj)) (within_key (ang_within h hj)).1 (within_key (ang_within h hj)).2
  exact bd_sure (bd_sub fmt32 (hb _ hk) (hb _ (by omega)) (by decide) (by decide))
set_option maxHeartbeats 8000000 in
theorem i_ZeroLift (A L D : Option Addr) (ca cl cd : Nat) (a l d : List Nat) (w : World) (h : Pf w A L D a l d) (hn : Few a l d) (_hca : a.length ≤ ca) (hcl : l.length ≤ cl) (_hcd : d.length ≤ cd) :
    Calls Try.prog 29 #[.agg #[.slice A a.length ca, .slice L l.length cl, .slice D d.length cd]] w fun e w' => ∃ r, e = .returned (.tuple #[.float .f32 r, .bool (zO a l d)]) ∧ canon .f32 r = zR a l d ∧ Below w.heap.size w w' := by
  have HP := Lib.hid h; clear h
  have HN := Lib.hid hn; clear hn
  have HB : ∀ o1, Hid (Below w.heap.size w (w.alloc o1)) := fun _ => Lib.hid ((Below.refl _ _).alloc (Nat.le_refl _) _)
  cases hv : validP a l d
  · have HV := Lib.hid hv
    go_enter Try.func29, Try.ntmps29
    go_wp2_with fail
    refine (i_ValidProfile A L D ca cl cd a l d _ (HP.out.below (HB _).out) HN.out).mono ?_
    rintro e w1 ⟨rfl, b1⟩
    have B1 : Hid (Below w.heap.size w w1) := Lib.hid (below_of (HB _).out (by simp) b1)
    clear b1
    rw [show validP a l d = _ from HV.out]
    go_wp2
    go_ret2
    exact ⟨_, by unfold zO; rw [HV.out]; rfl, by unfold zR; rw [HV.out]; exact canon_zero, B1.out⟩
  · have HV := Lib.hid hv
    obtain ⟨s1, s2, s3, s4⟩ := sized_of hv
    have HA : Hid (angs a a.length = true) := Lib.hid (by rw [validP_yes (sized_of hv)] at hv; simp only [Bool.and_eq_true] at hv; exact hv.1)
    clear hv
    have e1 : a.length ≤ l.length := by omega
    have e2 : l.length ≤ a.length := by omega
    have e3 : 1 < cl := by omega
    clear s3 s4
    go_enter Try.func29, Try.ntmps29
    go_wp2_with fail
    refine (i_ValidProfile A L D ca cl cd a l d _ (HP.out.below (HB _).out) HN.out).mono ?_
    rintro e w1 ⟨rfl, b1⟩
    have B1 : Hid (Below w.heap.size w w1) := Lib.hid (below_of (HB _).out (by simp) b1)
    have K1 : Hid (Blk3 w1 w.heap.size _ _ _) := Lib.hid (Blk3.below (blk3_new w _ _ _ _) b1)
    clear b1
    rw [show validP a l d = _ from HV.out]
    obtain ⟨-, ⟨k0, k1, k2⟩, -, -, -⟩ := K1.out
    obtain ⟨bl, ol, rfl, hbl, hcl0⟩ := HP.out.2.1.at_ (show 1 < l.length by omega)
    clear hcl0 hbl
    go_wp2_with fail
    have PA := Lib.hid (HP.out.1.below B1.out)
    have PL := Lib.hid (HP.out.2.1.below B1.out)
    go_loop [15] (fun i => ∃ k : Nat, k ≤ a.length - 1 ∧ i = .int .i64 k ∧ Hid (∀ j, j < k → zAt l j = false)) (fun i => a.length - 1 - (intOf i).toNat)
    case atStart => exact ⟨0, Nat.zero_le _, rfl, Lib.hid (fun j hj => by omega)⟩
    case round =>
      obtain ⟨k, hk, rfl, hr⟩ := hrel
      by_cases hlt : k < a.length - 1
      · obtain ⟨ba, oa, rfl, hb, hc⟩ := PA.out.at_ (show k < a.length by omega)
        have hc' := PA.out.same rfl (show k + 1 < a.length by omega)
        have hl := PL.out.same rfl (show k < l.length by omega)
        have hl' := PL.out.same rfl (show k + 1 < l.length by omega)
        have hl2 : w1.cell? ⟨bl, ol + 1 + k, none⟩ = some (.float .f32 (l.getD (k + 1) 0)) := by rw [show ol + 1 + k = ol + (k + 1) by omega]; exact hl'
        clear hl'
        obtain ⟨d1, d2⟩ := ang_sub HA.out (show k + 1 < a.length by omega)
        have HZ : Hid (zAt l k = (leq32 (l.getD k 0) 0 && gtr32 (l.getD (k + 1) 0) 0)) := rfl
        have HVv : Hid (zV a l k = fop .add .f32 (canon .f32 (a.getD k 0)) (fop .mul .f32 (canon .f32 (fop .sub .f32 (a.getD (k + 1) 0) (a.getD k 0))) (fop .quo .f32 (canon .f32 (l.getD k 0)) (fop .sub .f32 (canon .f32 (l.getD k 0)) (canon .f32 (l.getD (k + 1) 0)))))) := rfl
        generalize a.getD k 0 = x0 at hc HVv d1 d2
        generalize a.getD (k + 1) 0 = x1 at hc' HVv d1 d2
        generalize l.getD k 0 = y0 at hl HZ HVv
        generalize l.getD (k + 1) 0 = y1 at hl2 HZ HVv
        have hk1 : k + 1 < a.length := by omega
        have hwr : IntKind.i64.wrap ((k : Int) + 1) = (k : Int) + 1 := IntWalk.i64_in _ (by omega)
        have hge : (0 : Int) ≤ (k : Int) + 1 := by omega
        have hlt1 : (k : Int) + 1 < (a.length : Int) := by omega
        have htn : ((k : Int) + 1).toNat = k + 1 := by omega
        cases q1 : (FloatKind.f32.format.order y0 0 == some .lt || FloatKind.f32.format.order y0 0 == some .eq)
        · have HR : Hid (∀ j, j < k + 1 → zAt l j = false) := Lib.hid (fun j hj => by
            by_cases e : j = k
            · rw [e, HZ.out]; unfold leq32; rw [q1]; rfl
            · exact hr.out j (by omega))
          go_wp2
          go_round
          case rel => exact ⟨k + 1, by omega, by go_num, HR⟩
          case measure => simp [intOf]; omega
        · cases q2 : (FloatKind.f32.format.order y1 0 == some .gt)
          · have HR : Hid (∀ j, j < k + 1 → zAt l j = false) := Lib.hid (fun j hj => by
              by_cases e : j = k
              · rw [e, HZ.out]; unfold leq32 gtr32; rw [q1, q2]; rfl
              · exact hr.out j (by omega))
            go_wp2
            go_round
            case rel => exact ⟨k + 1, by omega, by go_num, HR⟩
            case measure => simp [intOf]; omega
          · have HH : Hid (zF l (a.length - 1) = some k) := Lib.hid (zF_hit hr.out (by rw [HZ.out]; unfold leq32 gtr32; rw [q1, q2]; rfl) _ hlt)
            go_wp2_with fail
            go_quiet (fail)
            go_wp2_with fail
            go_region_with (first | (go_at_call 69; refine (i_mulNumbers _ _ _).mono ?_; rintro e w' ⟨rfl, rfl⟩) | (go_at_call 62; refine (i_onlyFinite _ _).mono ?_; rintro e w' ⟨q, rfl, rfl⟩))
            all_goals
              go_wp2
              go_ret2
              exact ⟨_, by unfold zO; rw [HV.out, HH.out]; simp only [Bool.true_and]; rw [HVv.out, ← fin_canon]; simp only [canon_fopV, canon_fop]; rfl, by rw [canon_onlyN]; simp only [canon_fopV]; unfold zR; rw [HV.out, HH.out, if_pos rfl]; simp only []; rw [HVv.out], below_draws B1.out _⟩
      · have hkk : k = a.length - 1 := by omega
        subst hkk
        have HH : Hid (zF l (a.length - 1) = none) := Lib.hid (zF_none _ hr.out)
        go_wp2
        go_ret2
        exact ⟨_, by unfold zO; rw [HV.out, HH.out]; rfl, by unfold zR; rw [HV.out, HH.out]; exact canon_zero, B1.out⟩
end Go.Proofs.Ytmfookomcgbbkab
