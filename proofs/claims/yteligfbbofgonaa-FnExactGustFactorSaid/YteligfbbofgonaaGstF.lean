/- How great gusts are: both sides. No statement is proved here. -/
import Derived.Test.YteligfbbofgonaaGstM
namespace Go.Proofs.Yteligfbbofgonaa
open Go Go.RowKit
theorem amts_each {xs : List Nat} {n : Nat} (h : amts xs n = true) : ∀ j, j < n → amount (xs.getD j 0) = true := by
  induction n with
  | zero => intro j hj; omega
  | succ n ih =>
    intro j hj
    simp only [amts, Bool.and_eq_true] at h
    by_cases e : j = n
    · rw [e]; exact h.2
    · exact ih h.1 j (by omega)
theorem smL_pz {xs : List Nat} {m : Int} (h : smO xs m = true) : 1 ≤ (smL xs m).length ∧ ∀ j, j < (smL xs m).length → pzN ((smL xs m).getD j 0) := by
  obtain ⟨hv, hm, ha⟩ := smO_parts h
  rw [smL_len h, smL_yes h]
  have hN : smN xs m = xs.length - m.toNat + 1 := rfl
  refine ⟨by omega, fun j hj => ?_⟩
  have e1 : ((List.range (smN xs m)).map (smV xs m.toNat)).getD j 0 = smV xs m.toNat j := by
    simp [List.getD, List.getElem?_map, List.getElem?_range hj]
  rw [e1]
  have hf := alls_at ha j hj
  have hw : amts xs xs.length = true := by rw [winV_yes (winV_len hv)] at hv; exact hv
  have hsub : (subV xs j m.toNat).length = m.toNat := subV_length (by omega)
  refine ⟨fop_lt _ _ _ _, mean_pz (fun q hq => ?_) hf⟩
  rw [hsub] at hq
  rw [subV_at hq]
  exact amts_each hw _ (by omega)
def gstV (xs : List Nat) (m : Int) : Nat := fop .quo .f32 (mxF (smL xs m) (smL xs m).length) (meanV xs)
def gstO (xs : List Nat) (m : Int) : Bool := smO xs m && (fin .f32 (meanV xs) && fin .f32 (gstV xs m))
def gstR (xs : List Nat) (m : Int) : Nat := if smO xs m && fin .f32 (meanV xs) then onlyN (gstV xs m) else 0
theorem mxF_canon {zs : List Nat} (h : ∀ j, j < zs.length → pzN (zs.getD j 0)) : canon .f32 (mxF zs zs.length) = mxF zs zs.length := by
  obtain ⟨-, m, i, hd⟩ := mxF_pz h _ (Nat.le_refl _)
  refine canon_of_not ?_
  unfold isn FloatKind.decode
  rw [hd]; rfl
set_option maxHeartbeats 4000000 in
theorem i_GustFactor (A : Option Addr) (cap : Nat) (xs : List Nat) (m : Int) (w : World) (h : Fl w A xs) (hn : xs.length ≤ 1048576) (hcap : xs.length ≤ cap) :
    Calls Try.prog 42 #[.slice A xs.length cap, .int .i64 m] w fun e w' => ∃ r, e = .returned (.tuple #[.float .f32 r, .bool (gstO xs m)]) ∧ canon .f32 r = gstR xs m ∧ Below w.heap.size w w' := by
  have HF := Lib.hid h; clear h
  go_enter Try.func42, Try.ntmps42
  go_wp2_with fail
  refine (i_SmoothWinds A cap xs m _ HF.out hn hcap).mono ?_
  rintro e w1 ⟨A', c, b, rfl, ho, b1⟩
  have HO := Lib.hid ho
  have B1 := Lib.hid b1
  clear ho b1
  go_wp2_with fail
  refine (i_MeanOfWinds A cap xs _ (HF.out.below B1.out) hn).mono ?_
  rintro e w' ⟨r, n1, rfl, hr, rfl⟩
  have HR := Lib.hid hr; clear hr
  cases s : smO xs m
  · have S := Lib.hid s; clear s
    have HN : Hid (gstO xs m = false) := Lib.hid (by unfold gstO; rw [S.out]; rfl)
    go_wp2
    go_ret2
    exact ⟨_, by rw [HN.out]; rfl, by unfold gstR; rw [S.out]; exact canon_zero, below_draws B1.out _⟩
  · have S := Lib.hid s
    have hv := (smO_parts s).1
    obtain ⟨l1, lp⟩ := smL_pz s
    have LP := Lib.hid lp
    have LF := Lib.hid (smL_few xs m hn)
    have HMW : Hid (mwO xs = fin .f32 (meanV xs)) := Lib.hid (by unfold mwO; rw [hv]; rfl)
    have HV := Lib.hid hv
    clear s hv lp
    rw [HMW.out]
    cases f : fin .f32 (meanV xs)
    · have F := Lib.hid f; clear f
      have HN : Hid (gstO xs m = false) := Lib.hid (by unfold gstO; rw [S.out, F.out]; rfl)
      go_wp2
      go_ret2
      exact ⟨_, by rw [HN.out]; rfl, by unfold gstR; rw [S.out, F.out]; exact canon_zero, below_draws B1.out _⟩
    · have F := Lib.hid f; clear f
      have HR2 : Hid (canon .f32 r = meanV xs) := Lib.hid (by rw [HR.out]; unfold mwR; rw [HV.out]; simp only [if_true]; exact onlyN_fin F.out)
      go_wp2_with fail
      refine (lib_Max A' c (smL xs m) _ (HO.out.fl.draws _) LF.out l1 LP.out).mono ?_
      rintro e w' ⟨rfl, rfl⟩
      go_wp2_with fail
      refine (i_onlyFiniteC _ (gstV xs m) _ (canonF (mxF_canon LP.out) HR2.out)).mono ?_
      rintro e w' ⟨r2, n2, rfl, h2, rfl⟩
      have H2 := Lib.hid h2; clear h2
      go_wp2
      go_ret2
      exact ⟨_, by unfold gstO; rw [S.out, F.out]; rfl, by rw [H2.out]; unfold gstR; rw [S.out, F.out]; rfl, by repeat (first | exact B1.out | refine below_draws ?_ _)⟩
set_option maxHeartbeats 4000000 in
theorem s_GustFactor (A : Option Addr) (cap : Nat) (xs : List Nat) (m : Int) (w : World) (h : Fl w A xs) (hn : xs.length ≤ 1048576) (hcap : xs.length ≤ cap) :
    Calls Try.prog 41 #[.slice A xs.length cap, .int .i64 m] w fun e w' => ∃ r, e = .returned (.tuple #[.float .f32 r, .bool (gstO xs m)]) ∧ canon .f32 r = gstR xs m ∧ Below w.heap.size w w' := by
  have HF := Lib.hid h; clear h
  go_enter Try.func41, Try.ntmps41
  go_wp2_with fail
  refine (s_SmoothWinds A cap xs m _ HF.out hn hcap).mono ?_
  rintro e w1 ⟨A', c, b, rfl, ho, b1⟩
  have HO := Lib.hid ho
  have B1 := Lib.hid b1
  clear ho b1
  cases s : smO xs m
  · have S := Lib.hid s; clear s
    have HN : Hid (gstO xs m = false) := Lib.hid (by unfold gstO; rw [S.out]; rfl)
    go_wp2
    go_ret2
    exact ⟨_, by rw [HN.out]; rfl, by unfold gstR; rw [S.out]; exact canon_zero, B1.out⟩
  · have S := Lib.hid s
    obtain ⟨-, lp⟩ := smL_pz s
    have LP := Lib.hid lp
    have LF := Lib.hid (smL_few xs m hn)
    clear s lp
    have hfl := HO.out.fl
    generalize hz : smL xs m = zs at hfl LP LF
    have HZ := Lib.hid hz; clear hz
    have lf := LF.out
    have HFZ := Lib.hid hfl
    clear hfl
    go_wp2
    go_loopw [8, 9] (fun v i wr => ∃ k : Nat, k ≤ zs.length ∧ i = .int .i64 k ∧ v = .float .f32 (mxF zs k) ∧ wr = w1) (fun _ i _ => zs.length - (intOf i).toNat)
    case atStart => exact ⟨0, Nat.zero_le _, rfl, rfl, rfl⟩
    case round =>
      obtain ⟨k, hk, rfl, rfl, rfl⟩ := hrel
      by_cases hlt : k < zs.length
      · obtain ⟨b', off', rfl, hb', hc'⟩ := HFZ.out.at_ hlt
        have HS : Hid (mxF zs (k + 1) = if gtr32 (zs.getD k 0) (mxF zs k) then zs.getD k 0 else mxF zs k) := rfl
        generalize zs.getD k 0 = y at hc' HS
        generalize mxF zs k = v at HS ⊢
        clear hb'
        cases hg : (FloatKind.f32.format.order y v == some .gt)
        · have HN : Hid (mxF zs (k + 1) = v) := Lib.hid (by rw [HS.out]; unfold gtr32; rw [hg]; rfl)
          go_wp2
          go_roundw
          case rel => exact ⟨k + 1, by omega, by go_num, by rw [HN.out], by trivial⟩
          case measure => simp [intOf]; omega
        · have HN : Hid (mxF zs (k + 1) = y) := Lib.hid (by rw [HS.out]; unfold gtr32; rw [hg]; rfl)
          go_wp2
          go_roundw
          case rel => exact ⟨k + 1, by omega, by go_num, by rw [HN.out], by trivial⟩
          case measure => simp [intOf]; omega
      · have hkk : k = zs.length := by omega
        subst hkk
        go_wp2_with fail
        refine (s_l04Mean A cap xs _ (HF.out.below B1.out) hn).mono ?_
        rintro e w' ⟨r, n1, rfl, hr, rfl⟩
        have HR := Lib.hid hr; clear hr
        have HFr : Hid (fin .f32 r = fin .f32 (meanV xs)) := Lib.hid (by rw [← HR.out, fin_canon])
        go_wp2_with fail
        refine (s_l01Finite _ _).mono ?_
        rintro e w' ⟨n2, rfl, rfl⟩
        rw [HFr.out]
        cases f : fin .f32 (meanV xs)
        · have F := Lib.hid f; clear f
          have HN : Hid (gstO xs m = false) := Lib.hid (by unfold gstO; rw [S.out, F.out]; rfl)
          go_wp2
          go_ret2
          exact ⟨_, by rw [HN.out]; rfl, by unfold gstR; rw [S.out, F.out]; exact canon_zero, by repeat (first | exact B1.out | refine below_draws ?_ _)⟩
        · have F := Lib.hid f; clear f
          have HG : Hid (gstV xs m = fop .quo .f32 (mxF zs zs.length) (meanV xs)) := Lib.hid (by unfold gstV; rw [HZ.out])
          go_wp2_with fail
          refine (s_l02NumberC _ (gstV xs m) _ (by rw [HG.out]; exact canonF (mxF_canon LP.out) HR.out)).mono ?_
          rintro e w' ⟨r2, n3, rfl, h2, rfl⟩
          have H2 := Lib.hid h2; clear h2
          go_wp2
          go_ret2
          exact ⟨_, by unfold gstO; rw [S.out, F.out]; rfl, by rw [H2.out]; unfold gstR; rw [S.out, F.out]; rfl, by repeat (first | exact B1.out | refine below_draws ?_ _)⟩
end Go.Proofs.Yteligfbbofgonaa
