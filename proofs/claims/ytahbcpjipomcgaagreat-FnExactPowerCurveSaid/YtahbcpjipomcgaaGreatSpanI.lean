/- Where an angle lies among knots: the program's side. No statement is proved here. -/
import Derived.Test.YtahbcpjipomcgaaGreatSpan
import Derived.StillTailTactics
namespace Go.Proofs.YtahbcpjipomcgaaGreat
open Go Go.RowKit

def spW (lo hi : Nat) : Nat := if spZ lo hi then 0 else spD lo hi
set_option maxHeartbeats 4000000 in
theorem i_spanOf (i j : Int) (lo hi t : Nat) (w : World) (hl : Bd .f32 1 lo) (hh : Bd .f32 1 hi) (ht : Bd .f32 66 t) :
    Calls Tryz.prog 136 #[.int .i64 i, .int .i64 j, .float .f32 lo, .float .f32 hi, .float .f32 t] w fun e w' => e = .returned (.agg #[.int .i64 i, .int .i64 j, .float .f32 (spW lo hi), .float .f32 (spF lo hi t)]) ∧ Below w.heap.size w w' := by
  obtain ⟨f1, f2, f3, f4⟩ := spanFacts hl hh ht
  cases hz : spZ lo hi
  · obtain ⟨q1, q2⟩ := span_quo hl hh ht hz
    have HZ := Lib.hid hz
    have hz' : (FloatKind.f32.format.order (spD lo hi) 0 == some .eq) = false := hz
    clear hz
    go_enter Tryz.func136, Tryz.ntmps136
    go_wp2
    refine bodyPost_ret (v := .agg #[.int .i64 i, .int .i64 j, .float .f32 (spD lo hi), .float .f32 (spF lo hi t)]) (by simp [results, Tryz.results136, go_sem]) rfl ⟨by unfold spW; rw [HZ.out]; rfl, ?_⟩
    exact ((((below_draws ((Below.refl _ _).alloc (Nat.le_refl _) _) _).setCell (Nat.le_refl _) _).setCell (Nat.le_refl _) _).setCell (Nat.le_refl _) _).setCell (Nat.le_refl _) _
  · have HZ := Lib.hid hz
    have hz' : (FloatKind.f32.format.order (spD lo hi) 0 == some .eq) = true := hz
    clear hz
    go_enter Tryz.func136, Tryz.ntmps136
    go_wp2
    refine bodyPost_ret (v := .agg #[.int .i64 i, .int .i64 j, .float .f32 0, .float .f32 0]) (by simp [results, Tryz.results136, go_sem]) rfl ⟨by unfold spW spF; rw [HZ.out]; rfl, ?_⟩
    exact ((((below_draws ((Below.refl _ _).alloc (Nat.le_refl _) _) _).setCell (Nat.le_refl _) _).setCell (Nat.le_refl _) _).setCell (Nat.le_refl _) _).setCell (Nat.le_refl _) _
/-- a block of four cells -/
def Blk4 (w : World) (B : Nat) (v0 v1 v2 v3 : Value) : Prop :=
  B < w.heap.size ∧ (w.cell? ⟨B, 0, none⟩ = some v0 ∧ w.cell? ⟨B, 1, none⟩ = some v1 ∧ w.cell? ⟨B, 2, none⟩ = some v2 ∧ w.cell? ⟨B, 3, none⟩ = some v3) ∧
    (w.frozen? ⟨B, 0, none⟩ = false ∧ w.frozen? ⟨B, 1, none⟩ = false ∧ w.frozen? ⟨B, 2, none⟩ = false ∧ w.frozen? ⟨B, 3, none⟩ = false)
theorem blk4_at (w : World) (v0 v1 v2 v3 : Value) (t : TypeId) {n : Nat} (hn : n = w.heap.size) : Blk4 (w.alloc (.cells #[v0, v1, v2, v3] t)) n v0 v1 v2 v3 := by
  subst hn
  refine ⟨by simp, ⟨?_, ?_, ?_, ?_⟩, ?_, ?_, ?_, ?_⟩
  all_goals first | (rw [World.cell?_alloc_at (w := w) (hn := rfl)]; rfl) | (rw [World.frozen?_alloc_at (w := w) (hn := rfl)])
theorem Blk4.below {w w' : World} {B : Nat} {v0 v1 v2 v3 : Value} (h : Blk4 w B v0 v1 v2 v3) (hb : Below w.heap.size w w') : Blk4 w' B v0 v1 v2 v3 := by
  obtain ⟨h0, ⟨h1, h2, h3, h4⟩, h5, h6, h7, h8⟩ := h
  refine ⟨Nat.lt_of_lt_of_le h0 hb.size, ⟨?_, ?_, ?_, ?_⟩, ?_, ?_, ?_, ?_⟩
  · rw [hb.cell (p := ⟨B, 0, none⟩) h0, h1]
  · rw [hb.cell (p := ⟨B, 1, none⟩) h0, h2]
  · rw [hb.cell (p := ⟨B, 2, none⟩) h0, h3]
  · rw [hb.cell (p := ⟨B, 3, none⟩) h0, h4]
  · rw [hb.frozen (p := ⟨B, 0, none⟩) h0, h5]
  · rw [hb.frozen (p := ⟨B, 1, none⟩) h0, h6]
  · rw [hb.frozen (p := ⟨B, 2, none⟩) h0, h7]
  · rw [hb.frozen (p := ⟨B, 3, none⟩) h0, h8]
theorem Blk4.alloc {w : World} {B : Nat} {v0 v1 v2 v3 : Value} (h : Blk4 w B v0 v1 v2 v3) (o : Obj) : Blk4 (w.alloc o) B v0 v1 v2 v3 := h.below ((Below.refl _ _).alloc (Nat.le_refl _) _)

theorem Blk3.draws {w : World} {B : Nat} {v0 v1 v2 : Value} (h : Blk3 w B v0 v1 v2) (n : Nat) : Blk3 (w.drewN n) B v0 v1 v2 := h
theorem Blk4.draws {w : World} {B : Nat} {v0 v1 v2 v3 : Value} (h : Blk4 w B v0 v1 v2 v3) (n : Nat) : Blk4 (w.drewN n) B v0 v1 v2 v3 := h
def canSpan (a l d : List Nat) (x : Nat) : Bool := validP a l d && fin .f32 x
def spT (a : List Nat) (x : Nat) : Nat := spC a (wrapT x) a.length
set_option maxHeartbeats 16000000 in
set_option maxRecDepth 20000 in
theorem i_spanAt (A L D : Option Addr) (ca cl cd : Nat) (a l d : List Nat) (x : Nat) (w : World) (h : Pf w A L D a l d) (hn : Few a l d) (hcan : canSpan a l d x = true) :
    Calls Tryz.prog 132 #[.agg #[.slice A a.length ca, .slice L l.length cl, .slice D d.length cd], .float .f32 x] w fun e w' => e = .returned (.tuple #[.agg #[.int .i64 (spI a (spT a x)), .int .i64 (spJ a (spT a x)), .float .f32 (spW (spLo a (spT a x)) (spHi a (spT a x))), .float .f32 (spF (spLo a (spT a x)) (spHi a (spT a x)) (wrapT x))], .bool true]) ∧ Below w.heap.size w w' := by
  unfold canSpan at hcan
  rw [Bool.and_eq_true] at hcan
  obtain ⟨hv, hx⟩ := hcan
  have HP := Lib.hid h; clear h
  have HN := Lib.hid hn; clear hn
  have HV := Lib.hid hv
  have HX := Lib.hid hx
  obtain ⟨s1, s2, s3, s4⟩ := sized_of hv
  have HA : Hid (angs a a.length = true) := Lib.hid (by rw [validP_yes (sized_of hv)] at hv; simp only [Bool.and_eq_true] at hv; exact hv.1)
  have HT := Lib.hid (wrapT_bd hx)
  clear hv hx s3 s4
  obtain ⟨t, ht⟩ : ∃ t, t = wrapT x := ⟨_, rfl⟩
  have HTT := Lib.hid ht
  have HC : Hid (spT a x = spC a t a.length) := Lib.hid (by unfold spT; rw [ht])
  clear ht
  have HB : ∀ o1 o2, Hid (Below w.heap.size w ((w.alloc o1).alloc o2)) := fun _ _ => Lib.hid (((Below.refl _ _).alloc (Nat.le_refl _) _).alloc (by simp) _)
  go_enter Tryz.func132, Tryz.ntmps132
  go_wp2_with fail
  go_step3
  go_wp2_with fail
  refine (i_WrapAngle x HX.out _).mono ?_
  rintro e w' ⟨n0, rfl, rfl⟩
  rw [show wrapT x = t from HTT.out.symm]
  go_wp2_with fail
  refine (i_ValidProfile A L D ca cl cd a l d _ (HP.out.below (below_draws (HB _ _).out _)) HN.out).mono ?_
  rintro e w1 ⟨rfl, b1⟩
  rw [show validP a l d = _ from HV.out]
  have K1 : Hid (Blk3 w1 w.heap.size _ _ _) := Lib.hid ((Blk3.draws ((blk3_new w _ _ _ _).alloc _) _).below b1)
  have R1 : Hid (Blk4 w1 (w.heap.size + 1) _ _ _ _) := Lib.hid ((Blk4.draws (blk4_at (w.alloc _) _ _ _ _ _ (by simp)) _).below b1)
  have B1 : Hid (Below w.heap.size w w1) := Lib.hid (below_of (below_draws (HB _ _).out _) (by simp <;> omega) b1)
  clear b1
  obtain ⟨-, ⟨k0, k1, k2⟩, -, -, -⟩ := K1.out
  have PA := Lib.hid (HP.out.1.below B1.out)
  go_wp2_with fail
  go_quiet (fail)
  go_wp2_with fail
  have HT' : Hid (Bd .f32 66 t) := Lib.hid (by rw [HTT.out]; exact HT.out)
  go_step3
  go_wp2_with fail
  go_loop [8, 32] (fun i m => ∃ k : Nat, k ≤ a.length ∧ m = .int .i64 k ∧ i = .int .i64 ((k : Int) - 1) ∧ Hid (∀ j, j < k → leq32 (a.getD j 0) t = true)) (fun _ m => a.length - (intOf m).toNat)
  case atStart => exact ⟨0, Nat.zero_le _, rfl, rfl, Lib.hid (fun j hj => by omega)⟩
  case round =>
    obtain ⟨k, hk, rfl, rfl, hr⟩ := hrel
    have hl1 : (0 : Int) ≤ (a.length : Int) - 1 := by omega
    have hl2 : (a.length : Int) - 1 < (a.length : Int) := by omega
    have htn : ((a.length : Int) - 1).toNat = a.length - 1 := by omega
    by_cases hlt : k < a.length
    · obtain ⟨b, off, rfl, hb, hc⟩ := PA.out.at_ hlt
      have HZ := Lib.hid (PA.out.same rfl (show 0 < a.length by omega))
      have HY := Lib.hid (PA.out.same rfl (show a.length - 1 < a.length by omega))
      have HM : Hid (0 < k → w1.cell? ⟨b, off + (k - 1), none⟩ = some (.float .f32 (a.getD (k - 1) 0))) := Lib.hid (fun h0 => PA.out.same rfl (by omega))
      clear hb
      cases hq : (FloatKind.f32.format.order (a.getD k 0) t == some .lt || FloatKind.f32.format.order (a.getD k 0) t == some .eq)
      · have HK : Hid (spT a x = k) := Lib.hid (by rw [HC.out]; exact spC_is (by omega) hr.out (fun _ => hq))
        by_cases hk0 : k = 0
        · subst hk0
          have HL : Hid (Bd .f32 1 (fop .sub .f32 (a.getD (a.length - 1) 0) 1065353216)) := Lib.hid (spLo_bd (c := 0) rfl HA.out s1 (by omega))
          have HH : Hid (Bd .f32 1 (a.getD 0 0)) := Lib.hid (spHi_bd (c := 0) rfl HA.out s1 (by omega))
          have HE : Hid (Value.tuple #[.agg #[.int .i64 (spI a (spT a x)), .int .i64 (spJ a (spT a x)), .float .f32 (spW (spLo a (spT a x)) (spHi a (spT a x))), .float .f32 (spF (spLo a (spT a x)) (spHi a (spT a x)) (wrapT x))], .bool true] = .tuple #[.agg #[.int .i64 ((a.length : Int) - 1), .int .i64 0, .float .f32 (spW (fop .sub .f32 (a.getD (a.length - 1) 0) 1065353216) (a.getD 0 0)), .float .f32 (spF (fop .sub .f32 (a.getD (a.length - 1) 0) 1065353216) (a.getD 0 0) (wrapT x))], .bool true]) := Lib.hid (by
            obtain ⟨i1, i2, i3, i4⟩ := sp_zero a
            have e : ((a.length - 1 : Nat) : Int) = (a.length : Int) - 1 := by omega
            rw [HK.out, i1, i2, i3, i4, e]; rfl)
          obtain ⟨e1, e2⟩ := bd_sure HL.out
          have hz := HZ.out
          have hy := HY.out
          rw [Nat.add_zero] at hz hc
          generalize a.getD (a.length - 1) 0 = y at hy e1 e2 HL HE
          generalize a.getD 0 0 = z at hz hc hq HH HE
          go_wp2_with fail
          go_region_with (go_at_call 136; refine (i_spanOf _ _ _ _ t _ HL.out HH.out HT'.out).mono ?_; rintro e w2 ⟨rfl, b2⟩; obtain ⟨-, ⟨r0, r1, r2, r3⟩, r4, r5, r6, r7⟩ := (R1.out.draws _).below b2; have B2 : Hid (Below w.heap.size w w2) := Lib.hid (below_of (below_draws B1.out _) (by have := B1.out.size; simpa using this) b2); clear b2)
          all_goals
            go_wp2
            try rw [Exit.noGoto_ret]
            refine bodyPost_ret (v := .tuple #[.agg #[.int .i64 ((a.length : Int) - 1), .int .i64 0, .float .f32 (spW (fop .sub .f32 y 1065353216) z), .float .f32 (spF (fop .sub .f32 y 1065353216) z t)], .bool true]) (by simp [results, Tryz.results132, go_sem, r0, r1, r2, r3]) rfl ⟨?_, ?_⟩
            · rw [HE.out, HTT.out]
            · exact (((B2.out.setCell (by show w.heap.size ≤ w.heap.size + 1; omega) _).setCell (by show w.heap.size ≤ w.heap.size + 1; omega) _).setCell (by show w.heap.size ≤ w.heap.size + 1; omega) _).setCell (by show w.heap.size ≤ w.heap.size + 1; omega) _
        · have hk1 : 0 < k := by omega
          have HL : Hid (Bd .f32 1 (a.getD (k - 1) 0)) := Lib.hid (by have := spLo_bd (c := k) rfl HA.out s1 (by omega); rw [(sp_mid hk1 hlt).2.2.1] at this; exact this)
          have HH : Hid (Bd .f32 1 (a.getD k 0)) := Lib.hid (by have := spHi_bd (c := k) rfl HA.out s1 (by omega); rw [(sp_mid hk1 hlt).2.2.2] at this; exact this)
          have HE : Hid (Value.tuple #[.agg #[.int .i64 (spI a (spT a x)), .int .i64 (spJ a (spT a x)), .float .f32 (spW (spLo a (spT a x)) (spHi a (spT a x))), .float .f32 (spF (spLo a (spT a x)) (spHi a (spT a x)) (wrapT x))], .bool true] = .tuple #[.agg #[.int .i64 ((k : Int) - 1), .int .i64 ((k : Nat) : Int), .float .f32 (spW (a.getD (k - 1) 0) (a.getD k 0)), .float .f32 (spF (a.getD (k - 1) 0) (a.getD k 0) (wrapT x))], .bool true]) := Lib.hid (by
            obtain ⟨i1, i2, i3, i4⟩ := sp_mid hk1 hlt
            have e : ((k - 1 : Nat) : Int) = (k : Int) - 1 := by omega
            rw [HK.out, i1, i2, i3, i4, e])
          have hm := HM.out hk1
          have n1 : ((k : Int) - 1 == -1) = false := by rw [beq_eq_false_iff_ne]; omega
          have n2 : ((k : Int) - 1 == (a.length : Int) - 1) = false := by rw [beq_eq_false_iff_ne]; omega
          have g1 : (0 : Int) ≤ (k : Int) - 1 := by omega
          have g2 : (k : Int) - 1 < (a.length : Int) := by omega
          have g3 : ((k : Int) - 1).toNat = k - 1 := by omega
          have g4 : IntKind.i64.wrap ((k : Int) - 1 + 1) = (k : Int) := by rw [IntWalk.i64_in _ (by omega)]; omega
          have g5 : (k : Int) - 1 + 1 = (k : Int) := by omega
          have g6 : (k : Int) < (a.length : Int) := by omega
          have g7 : (0 : Int) ≤ (k : Int) := by omega
          have g8 : IntKind.i64.wrap (k : Int) = (k : Int) := IntWalk.i64_in _ (by omega)
          generalize a.getD (k - 1) 0 = y at hm HL HE
          generalize a.getD k 0 = z at hc hq HH HE
          clear hk0
          go_wp2_with fail
          go_region_with (go_at_call 136; refine (i_spanOf _ _ _ _ t _ HL.out HH.out HT'.out).mono ?_; rintro e w2 ⟨rfl, b2⟩; obtain ⟨-, ⟨r0, r1, r2, r3⟩, r4, r5, r6, r7⟩ := (R1.out.draws _).below b2; have B2 : Hid (Below w.heap.size w w2) := Lib.hid (below_of (below_draws B1.out _) (by have := B1.out.size; simpa using this) b2); clear b2)
          all_goals
            go_wp2
            try rw [Exit.noGoto_ret]
            refine bodyPost_ret (v := .tuple #[.agg #[.int .i64 ((k : Int) - 1), .int .i64 (k : Int), .float .f32 (spW y z), .float .f32 (spF y z t)], .bool true]) (by simp [results, Tryz.results132, go_sem, r0, r1, r2, r3]) rfl ⟨?_, ?_⟩
            · rw [HE.out, HTT.out]
            · exact (((B2.out.setCell (by show w.heap.size ≤ w.heap.size + 1; omega) _).setCell (by show w.heap.size ≤ w.heap.size + 1; omega) _).setCell (by show w.heap.size ≤ w.heap.size + 1; omega) _).setCell (by show w.heap.size ≤ w.heap.size + 1; omega) _
      · have HR : Hid (∀ j, j < k + 1 → leq32 (a.getD j 0) t = true) := Lib.hid (fun j hj => by
          by_cases e : j = k
          · rw [e]; exact hq
          · exact hr.out j (by omega))
        generalize a.getD k 0 = z at hc hq
        go_wp2
        go_round
        case rel => exact ⟨k + 1, by omega, by go_num, by go_num, HR⟩
        case measure => simp [intOf]; omega
    · have hkk : k = a.length := by omega
      subst hkk
      obtain ⟨b, off, rfl, hb, hz⟩ := PA.out.at_ (show 0 < a.length by omega)
      have hy := PA.out.same rfl (show a.length - 1 < a.length by omega)
      clear hb
      have HK : Hid (spT a x = a.length) := Lib.hid (by rw [HC.out]; exact spC_is (Nat.le_refl _) hr.out (fun h => absurd h (Nat.lt_irrefl _)))
      have HL : Hid (Bd .f32 1 (a.getD (a.length - 1) 0)) := Lib.hid (by have := spLo_bd (c := a.length) rfl HA.out s1 (by omega); rw [(sp_all s1).2.2.1] at this; exact this)
      have HH : Hid (Bd .f32 1 (fop .add .f32 (a.getD 0 0) 1065353216)) := Lib.hid (by have := spHi_bd (c := a.length) rfl HA.out s1 (by omega); rw [(sp_all s1).2.2.2] at this; exact this)
      have HE : Hid (Value.tuple #[.agg #[.int .i64 (spI a (spT a x)), .int .i64 (spJ a (spT a x)), .float .f32 (spW (spLo a (spT a x)) (spHi a (spT a x))), .float .f32 (spF (spLo a (spT a x)) (spHi a (spT a x)) (wrapT x))], .bool true] = .tuple #[.agg #[.int .i64 ((a.length : Int) - 1), .int .i64 0, .float .f32 (spW (a.getD (a.length - 1) 0) (fop .add .f32 (a.getD 0 0) 1065353216)), .float .f32 (spF (a.getD (a.length - 1) 0) (fop .add .f32 (a.getD 0 0) 1065353216) (wrapT x))], .bool true]) := Lib.hid (by
        obtain ⟨i1, i2, i3, i4⟩ := sp_all s1
        have e : ((a.length - 1 : Nat) : Int) = (a.length : Int) - 1 := by omega
        rw [HK.out, i1, i2, i3, i4, e]; rfl)
      obtain ⟨e1, e2⟩ := bd_sure HH.out
      rw [Nat.add_zero] at hz
      have n1 : ((a.length : Int) - 1 == -1) = false := by rw [beq_eq_false_iff_ne]; omega
      generalize a.getD (a.length - 1) 0 = y at hy HL HE
      generalize a.getD 0 0 = z at hz e1 e2 HH HE
      go_wp2_with fail
      go_region_with (go_at_call 136; refine (i_spanOf _ _ _ _ t _ HL.out HH.out HT'.out).mono ?_; rintro e w2 ⟨rfl, b2⟩; obtain ⟨-, ⟨r0, r1, r2, r3⟩, r4, r5, r6, r7⟩ := (R1.out.draws _).below b2; have B2 : Hid (Below w.heap.size w w2) := Lib.hid (below_of (below_draws B1.out _) (by have := B1.out.size; simpa using this) b2); clear b2)
      all_goals
        go_wp2
        try rw [Exit.noGoto_ret]
        refine bodyPost_ret (v := .tuple #[.agg #[.int .i64 ((a.length : Int) - 1), .int .i64 0, .float .f32 (spW y (fop .add .f32 z 1065353216)), .float .f32 (spF y (fop .add .f32 z 1065353216) t)], .bool true]) (by simp [results, Tryz.results132, go_sem, r0, r1, r2, r3]) rfl ⟨?_, ?_⟩
        · rw [HE.out, HTT.out]
        · exact (((B2.out.setCell (by show w.heap.size ≤ w.heap.size + 1; omega) _).setCell (by show w.heap.size ≤ w.heap.size + 1; omega) _).setCell (by show w.heap.size ≤ w.heap.size + 1; omega) _).setCell (by show w.heap.size ≤ w.heap.size + 1; omega) _
end Go.Proofs.YtahbcpjipomcgaaGreat
