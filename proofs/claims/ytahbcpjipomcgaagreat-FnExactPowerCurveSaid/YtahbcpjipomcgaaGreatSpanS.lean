/- Where an angle lies among knots: the specification's side. No statement is proved here. -/
import Derived.Test.YtahbcpjipomcgaaGreatSpan
namespace Go.Proofs.YtahbcpjipomcgaaGreat
open Go Go.RowKit

def canSpan' (a l d : List Nat) (x : Nat) : Bool := validP a l d && fin .f32 x
def spT' (a : List Nat) (x : Nat) : Nat := spC a (wrapT x) a.length
theorem leq_not_gtr {a b : Nat} (ha : fin .f32 a = true) (hb : fin .f32 b = true) : leq32 a b = !gtr32 a b := by
  rw [leq_key ha hb, gtr_key ha hb]
  by_cases h : key a ≤ key b
  · have h2 : ¬ key b < key a := by omega
    rw [decide_eq_true h, decide_eq_false h2]; rfl
  · have h2 : key b < key a := by omega
    rw [decide_eq_false h, decide_eq_true h2]; rfl
theorem spC_down {a : List Nat} {t m n : Nat} (h : angs a n = true) (ht : fin .f32 t = true) (hm : m ≤ n) (h1 : ∀ j, m ≤ j → j < n → gtr32 (a.getD j 0) t = true) (h2 : 0 < m → gtr32 (a.getD (m - 1) 0) t = false) : spC a t n = m := by
  have hle := spC_le a t n
  rcases Nat.lt_trichotomy (spC a t n) m with hl | hl | hl
  · exfalso
    have := spC_beyond h ht (m - 1) (by omega) (by omega)
    rw [h2 (by omega)] at this; cases this
  · exact hl
  · exfalso
    have g := spC_hit a t n m hl
    rw [leq_not_gtr (within_fin (ang_within h (show m < n by omega))) ht, h1 m (Nat.le_refl _) (by omega)] at g
    cases g
theorem results_tmp4 {fn : Func} {t u v x : Tmp} (h : fn.results = #[.tmp t, .tmp u, .tmp v, .tmp x]) (tmps : Array Value) (P : Program) (w : World) :
    (results fn tmps).run P w = .ok (.tuple #[tmps.getD t undef, tmps.getD u undef, tmps.getD v undef, tmps.getD x undef]) w := by simp [results, h]
set_option maxHeartbeats 16000000 in
set_option maxRecDepth 100000 in
theorem s_l02Pair (A L D : Option Addr) (ca cl cd : Nat) (a l d : List Nat) (x B : Nat) (w : World) (h : Pf w A L D a l d) (hk : Blk3 w B (.slice A a.length ca) (.slice L l.length cl) (.slice D d.length cd)) (hcan : canSpan' a l d x = true) :
    Calls Tryz.prog 131 #[.pointer (some ⟨B, 0, none⟩), .float .f32 x] w fun e w' => e = .returned (.tuple #[.int .i64 (spI a (spT' a x)), .int .i64 (spJ a (spT' a x)), .float .f32 (spF (spLo a (spT' a x)) (spHi a (spT' a x)) (wrapT x)), .float .f32 (spD (spLo a (spT' a x)) (spHi a (spT' a x)))]) ∧ w' = w := by
  unfold canSpan' at hcan
  rw [Bool.and_eq_true] at hcan
  obtain ⟨hv, hx⟩ := hcan
  have PA := Lib.hid h.1; clear h
  obtain ⟨-, ⟨k0, k1, k2⟩, -, -, -⟩ := hk
  have HX := Lib.hid hx
  obtain ⟨s1, s2, s3, s4⟩ := sized_of hv
  have HA : Hid (angs a a.length = true) := Lib.hid (by rw [validP_yes (sized_of hv)] at hv; simp only [Bool.and_eq_true] at hv; exact hv.1)
  have HT0 := Lib.hid (wrapT_bd hx)
  clear hv hx s3 s4
  obtain ⟨t, ht⟩ : ∃ t, t = wrapT x := ⟨_, rfl⟩
  have HTT := Lib.hid ht
  have HC : Hid (spT' a x = spC a t a.length) := Lib.hid (by unfold spT'; rw [ht])
  have HT : Hid (Bd .f32 66 t) := Lib.hid (by rw [ht]; exact HT0.out)
  clear ht
  go_enter Tryz.func131, Tryz.ntmps131
  go_wp2_with fail
  refine (s_l02Wrap x HX.out _).mono ?_
  rintro e w' ⟨rfl, rfl⟩
  rw [show wrapT x = t from HTT.out.symm]
  go_wp2_with fail
  go_loop [10] (fun i => ∃ m : Nat, m ≤ a.length ∧ i = .int .i64 ((m : Int) - 1) ∧ Hid (∀ j, m ≤ j → j < a.length → gtr32 (a.getD j 0) t = true)) (fun i => (intOf i + 1).toNat)
  case atStart => exact ⟨a.length, Nat.le_refl _, rfl, Lib.hid (fun j h1 h2 => by omega)⟩
  case round =>
    obtain ⟨m, hm, rfl, hr⟩ := hrel
    have HZ := Lib.hid (PA.out.at_ (show 0 < a.length by omega))
    by_cases hm0 : m = 0
    · subst hm0
      obtain ⟨b, off, rfl, hb, hz⟩ := HZ.out
      have hy := PA.out.same rfl (show a.length - 1 < a.length by omega)
      clear hb HZ
      rw [Nat.add_zero] at hz
      have HK : Hid (spT' a x = 0) := Lib.hid (by rw [HC.out]; exact spC_down HA.out (bd_fin HT.out) (by omega) hr.out (fun h => by omega))
      have HL : Hid (Bd .f32 1 (fop .sub .f32 (a.getD (a.length - 1) 0) 1065353216)) := Lib.hid (spLo_bd (c := 0) rfl HA.out s1 (by omega))
      have HH : Hid (Bd .f32 1 (a.getD 0 0)) := Lib.hid (spHi_bd (c := 0) rfl HA.out s1 (by omega))
      have hlt : (FloatKind.f32.format.order t (a.getD 0 0) == some .lt) = true := by
        have h1 := hr.out 0 (Nat.le_refl _) (by omega)
        rw [gtr_key (within_fin (ang_within HA.out (show 0 < a.length by omega))) (bd_fin HT.out)] at h1
        exact (lss_key (bd_fin HT.out) (within_fin (ang_within HA.out (show 0 < a.length by omega)))).trans h1
      have HE : Hid ((Value.tuple #[.int .i64 (spI a (spT' a x)), .int .i64 (spJ a (spT' a x)), .float .f32 (spF (spLo a (spT' a x)) (spHi a (spT' a x)) (wrapT x)), .float .f32 (spD (spLo a (spT' a x)) (spHi a (spT' a x)))]) = .tuple #[.int .i64 ((a.length : Int) - 1), .int .i64 0, .float .f32 (spF (fop .sub .f32 (a.getD (a.length - 1) 0) 1065353216) (a.getD 0 0) (wrapT x)), .float .f32 (spD (fop .sub .f32 (a.getD (a.length - 1) 0) 1065353216) (a.getD 0 0))]) := Lib.hid (by
        obtain ⟨i1, i2, i3, i4⟩ := sp_zero a
        have e : ((a.length - 1 : Nat) : Int) = (a.length : Int) - 1 := by omega
        rw [HK.out, i1, i2, i3, i4, e]; rfl)
      obtain ⟨e1, e2⟩ := bd_sure HL.out
      have g1 : (0 : Int) ≤ (a.length : Int) - 1 := by omega
      have g2 : (a.length : Int) - 1 < (a.length : Int) := by omega
      have g3 : ((a.length : Int) - 1).toNat = a.length - 1 := by omega
      have n1 : ((0 : Int) == (a.length : Int)) = false := by rw [beq_eq_false_iff_ne]; omega
      generalize a.getD (a.length - 1) 0 = y at hy e1 e2 HL HE
      generalize a.getD 0 0 = z at hz hlt HH HE
      obtain ⟨f1, f2, f3, f4⟩ := spanFacts HL.out HH.out HT.out
      cases hq : spZ (fop .sub .f32 y 1065353216) z
      · obtain ⟨q1, q2⟩ := span_quo HL.out HH.out HT.out hq
        have hq' : (FloatKind.f32.format.order (spD (fop .sub .f32 y 1065353216) z) 0 == some .eq) = false := hq
        clear hq
        go_wp2
        refine bodyPost_ret (results_tmp4 rfl _ _ _) rfl ?_
        exact ⟨by rw [HE.out, ← HTT.out]; rfl, by rfl⟩
      · have HQ := Lib.hid hq
        have hq' : (FloatKind.f32.format.order (spD (fop .sub .f32 y 1065353216) z) 0 == some .eq) = true := hq
        clear hq
        go_wp2
        refine bodyPost_ret (results_tmp4 rfl _ _ _) rfl ?_
        exact ⟨by rw [HE.out, ← HTT.out]; unfold spF; rw [HQ.out]; rfl, by rfl⟩
    · have hm1 : 0 < m := by omega
      obtain ⟨b, off, rfl, hb, hz⟩ := HZ.out
      have hy := PA.out.same rfl (show m - 1 < a.length by omega)
      have HX0 := Lib.hid hz
      clear hb HZ hz hm0
      have g1 : (0 : Int) ≤ (m : Int) - 1 := by omega
      have g2 : (m : Int) - 1 < (a.length : Int) := by omega
      have g3 : ((m : Int) - 1).toNat = m - 1 := by omega
      have g4 : IntKind.i64.wrap ((m : Int) - 1 - 1) = ((m - 1 : Nat) : Int) - 1 := by rw [IntWalk.i64_in _ (by omega)]; omega
      have g5 : IntKind.i64.wrap ((m : Int) - 1 + 1) = (m : Int) := by rw [IntWalk.i64_in _ (by omega)]; omega
      cases hg : (FloatKind.f32.format.order (a.getD (m - 1) 0) t == some .gt)
      · have HK : Hid (spT' a x = m) := Lib.hid (by rw [HC.out]; exact spC_down HA.out (bd_fin HT.out) hm hr.out (fun _ => hg))
        by_cases hmn : m = a.length
        · subst hmn
          have hz := HX0.out
          rw [Nat.add_zero] at hz
          have HL : Hid (Bd .f32 1 (a.getD (a.length - 1) 0)) := Lib.hid (by have := spLo_bd (c := a.length) rfl HA.out s1 (by omega); rw [(sp_all s1).2.2.1] at this; exact this)
          have HH : Hid (Bd .f32 1 (fop .add .f32 (a.getD 0 0) 1065353216)) := Lib.hid (by have := spHi_bd (c := a.length) rfl HA.out s1 (by omega); rw [(sp_all s1).2.2.2] at this; exact this)
          have hlt : (FloatKind.f32.format.order t (a.getD 0 0) == some .lt) = false := by
            have f0 := within_fin (ang_within HA.out (show 0 < a.length by omega))
            have f1 := within_fin (ang_within HA.out (show a.length - 1 < a.length by omega))
            have h1 : gtr32 (a.getD (a.length - 1) 0) t = false := hg
            rw [gtr_key f1 (bd_fin HT.out)] at h1
            have h2 := of_decide_eq_false h1
            have h3 := ang_lt' HA.out (show 0 < a.length - 1 by omega) (show a.length - 1 < a.length by omega)
            exact (lss_key (bd_fin HT.out) f0).trans (decide_eq_false (by omega))
          have HE : Hid ((Value.tuple #[.int .i64 (spI a (spT' a x)), .int .i64 (spJ a (spT' a x)), .float .f32 (spF (spLo a (spT' a x)) (spHi a (spT' a x)) (wrapT x)), .float .f32 (spD (spLo a (spT' a x)) (spHi a (spT' a x)))]) = .tuple #[.int .i64 ((a.length : Int) - 1), .int .i64 0, .float .f32 (spF (a.getD (a.length - 1) 0) (fop .add .f32 (a.getD 0 0) 1065353216) (wrapT x)), .float .f32 (spD (a.getD (a.length - 1) 0) (fop .add .f32 (a.getD 0 0) 1065353216))]) := Lib.hid (by
            obtain ⟨i1, i2, i3, i4⟩ := sp_all s1
            have e : ((a.length - 1 : Nat) : Int) = (a.length : Int) - 1 := by omega
            rw [HK.out, i1, i2, i3, i4, e]; rfl)
          obtain ⟨e1, e2⟩ := bd_sure HH.out
          generalize a.getD (a.length - 1) 0 = y at hy hg HL HE
          generalize a.getD 0 0 = z at hz hlt e1 e2 HH HE
          obtain ⟨f1, f2, f3, f4⟩ := spanFacts HL.out HH.out HT.out
          cases hq : spZ y (fop .add .f32 z 1065353216)
          · obtain ⟨q1, q2⟩ := span_quo HL.out HH.out HT.out hq
            have hq' : (FloatKind.f32.format.order (spD y (fop .add .f32 z 1065353216)) 0 == some .eq) = false := hq
            clear hq
            go_wp2
            refine bodyPost_ret (results_tmp4 rfl _ _ _) rfl ?_
            exact ⟨by rw [HE.out, ← HTT.out]; rfl, by rfl⟩
          · have HQ := Lib.hid hq
            have hq' : (FloatKind.f32.format.order (spD y (fop .add .f32 z 1065353216)) 0 == some .eq) = true := hq
            clear hq
            go_wp2
            refine bodyPost_ret (results_tmp4 rfl _ _ _) rfl ?_
            exact ⟨by rw [HE.out, ← HTT.out]; unfold spF; rw [HQ.out]; rfl, by rfl⟩
        · have hmn' : m < a.length := by omega
          have hz := PA.out.same rfl hmn'
          have HL : Hid (Bd .f32 1 (a.getD (m - 1) 0)) := Lib.hid (by have := spLo_bd (c := m) rfl HA.out s1 (by omega); rw [(sp_mid hm1 hmn').2.2.1] at this; exact this)
          have HH : Hid (Bd .f32 1 (a.getD m 0)) := Lib.hid (by have := spHi_bd (c := m) rfl HA.out s1 (by omega); rw [(sp_mid hm1 hmn').2.2.2] at this; exact this)
          have HE : Hid ((Value.tuple #[.int .i64 (spI a (spT' a x)), .int .i64 (spJ a (spT' a x)), .float .f32 (spF (spLo a (spT' a x)) (spHi a (spT' a x)) (wrapT x)), .float .f32 (spD (spLo a (spT' a x)) (spHi a (spT' a x)))]) = .tuple #[.int .i64 ((m : Int) - 1), .int .i64 (m : Int), .float .f32 (spF (a.getD (m - 1) 0) (a.getD m 0) (wrapT x)), .float .f32 (spD (a.getD (m - 1) 0) (a.getD m 0))]) := Lib.hid (by
            obtain ⟨i1, i2, i3, i4⟩ := sp_mid hm1 hmn'
            have e : ((m - 1 : Nat) : Int) = (m : Int) - 1 := by omega
            rw [HK.out, i1, i2, i3, i4, e])
          have n1 : ((m : Int) == (a.length : Int)) = false := by rw [beq_eq_false_iff_ne]; omega
          have n2 : ((m : Int) == 0) = false := by rw [beq_eq_false_iff_ne]; omega
          generalize a.getD (m - 1) 0 = y at hy hg HL HE
          generalize a.getD m 0 = z at hz HH HE
          obtain ⟨f1, f2, f3, f4⟩ := spanFacts HL.out HH.out HT.out
          clear hmn
          cases hq : spZ y z
          · obtain ⟨q1, q2⟩ := span_quo HL.out HH.out HT.out hq
            have hq' : (FloatKind.f32.format.order (spD y z) 0 == some .eq) = false := hq
            clear hq
            go_wp2
            refine bodyPost_ret (results_tmp4 rfl _ _ _) rfl ?_
            exact ⟨by rw [HE.out, ← HTT.out]; rfl, by rfl⟩
          · have HQ := Lib.hid hq
            have hq' : (FloatKind.f32.format.order (spD y z) 0 == some .eq) = true := hq
            clear hq
            go_wp2
            refine bodyPost_ret (results_tmp4 rfl _ _ _) rfl ?_
            exact ⟨by rw [HE.out, ← HTT.out]; unfold spF; rw [HQ.out]; rfl, by rfl⟩
      · have HR : Hid (∀ j, m - 1 ≤ j → j < a.length → gtr32 (a.getD j 0) t = true) := Lib.hid (fun j h1 h2 => by
          by_cases e : j = m - 1
          · rw [e]; exact hg
          · exact hr.out j (by omega) h2)
        generalize a.getD (m - 1) 0 = y at hy hg
        go_wp2
        go_round
        case rel => exact ⟨m - 1, by omega, by go_num, HR⟩
        case measure => simp [intOf]; omega
end Go.Proofs.YtahbcpjipomcgaaGreat
