/- FlowAt: the halvings and the program's side. No statement is proved here. -/
import Derived.Test.YtahbcpjipomcgaaGreatBalI
namespace Go.Proofs.YtahbcpjipomcgaaGreat
open Go Go.RowKit
def halfW (lo hi : Nat) : Nat := fop .mul .f32 1056964608 (fop .add .f32 lo hi)
theorem halfW_bd {lo hi : Nat} (h1 : Bd .f32 0 lo) (h2 : Bd .f32 0 hi) : Bd .f32 1 (fop .add .f32 lo hi) ∧ Bd .f32 0 (halfW lo hi) := by
  have e1 : Bd .f32 1 (fop .add .f32 lo hi) := bd_add fmt32 h1 h2 (by decide) (by decide)
  have e0 : Bd .f32 (-1) 1056964608 := ⟨false, 8388608, -24, by decide +kernel, by unfold Le2; decide⟩
  exact ⟨e1, bd_mul fmt32 e0 e1 (by decide) (by decide)⟩
/-- both ends after so many halvings; none where a balance on the way is not told -/
def flowS (a l d : List Nat) (q tip x y z wi sp p : Nat) : Nat → Option (Nat × Nat)
  | 0 => some (981668463, 1048508891)
  | k + 1 => (flowS a l d q tip x y z wi sp p k).bind fun e =>
      if balG a l d q tip x y z (halfW e.1 e.2) wi sp p then
        (if gtr32 (balZ a l d q tip x y z (halfW e.1 e.2) wi sp p) 0 then some (e.1, halfW e.1 e.2) else some (halfW e.1 e.2, e.2))
      else none
theorem flowS_no {a l d : List Nat} {q tip x y z wi sp p k u v : Nat} (h : flowS a l d q tip x y z wi sp p k = some (u, v)) (hg : balG a l d q tip x y z (halfW u v) wi sp p = false) : flowS a l d q tip x y z wi sp p (k + 1) = none := by
  unfold flowS; rw [h]; simp [hg]
theorem flowS_hi {a l d : List Nat} {q tip x y z wi sp p k u v : Nat} (h : flowS a l d q tip x y z wi sp p k = some (u, v)) (hg : balG a l d q tip x y z (halfW u v) wi sp p = true) (ht : gtr32 (balZ a l d q tip x y z (halfW u v) wi sp p) 0 = true) : flowS a l d q tip x y z wi sp p (k + 1) = some (u, halfW u v) := by
  unfold flowS; rw [h]; simp [hg, ht]
theorem flowS_lo {a l d : List Nat} {q tip x y z wi sp p k u v : Nat} (h : flowS a l d q tip x y z wi sp p k = some (u, v)) (hg : balG a l d q tip x y z (halfW u v) wi sp p = true) (ht : gtr32 (balZ a l d q tip x y z (halfW u v) wi sp p) 0 = false) : flowS a l d q tip x y z wi sp p (k + 1) = some (halfW u v, v) := by
  unfold flowS; rw [h]; simp [hg, ht]
theorem flowS_stay {a l d : List Nat} {q tip x y z wi sp p k : Nat} (h : flowS a l d q tip x y z wi sp p k = none) : ∀ j, flowS a l d q tip x y z wi sp p (k + j) = none
  | 0 => h
  | j + 1 => by rw [← Nat.add_assoc]; unfold flowS; rw [flowS_stay h j]; rfl
theorem flowS_bd {a l d : List Nat} {q tip x y z wi sp p : Nat} : ∀ k u v, flowS a l d q tip x y z wi sp p k = some (u, v) → Bd .f32 0 u ∧ Bd .f32 0 v
  | 0, u, v, h => by
    unfold flowS at h
    simp only [Option.some.injEq, Prod.mk.injEq] at h
    obtain ⟨rfl, rfl⟩ := h
    exact ⟨bd_c1, bd_c2⟩
  | k + 1, u, v, h => by
    cases hk : flowS a l d q tip x y z wi sp p k with
    | none => unfold flowS at h; rw [hk] at h; cases h
    | some e =>
      obtain ⟨u', v'⟩ := e
      obtain ⟨i1, i2⟩ := flowS_bd k u' v' hk
      have i3 := (halfW_bd i1 i2).2
      cases hg : balG a l d q tip x y z (halfW u' v') wi sp p
      · rw [flowS_no hk hg] at h; cases h
      · cases ht : gtr32 (balZ a l d q tip x y z (halfW u' v') wi sp p) 0
        · rw [flowS_lo hk hg ht] at h
          simp only [Option.some.injEq, Prod.mk.injEq] at h
          obtain ⟨rfl, rfl⟩ := h
          exact ⟨i3, i2⟩
        · rw [flowS_hi hk hg ht] at h
          simp only [Option.some.injEq, Prod.mk.injEq] at h
          obtain ⟨rfl, rfl⟩ := h
          exact ⟨i1, i3⟩
def flV : Option (Nat × Nat) → Nat
  | some e => e.1
  | none => 0
theorem balR_yes {a l d : List Nat} {q tip x y z f wi sp p : Nat} (h : balG a l d q tip x y z f wi sp p = true) : balR a l d q tip x y z f wi sp p = balZ a l d q tip x y z f wi sp p := by
  unfold balG at h
  rw [Bool.and_eq_true] at h
  unfold balR onlyN
  rw [h.1, h.2]; rfl
theorem gtr_canon {r V : Nat} (h : canon .f32 r = V) : (FloatKind.f32.format.order r 0 == some .gt) = gtr32 V 0 := by
  unfold gtr32
  rw [← order_canon .f32 r 0, h, canon_zero]
set_option maxHeartbeats 4000000 in
set_option maxRecDepth 100000 in
theorem i_flowByHalves (b1 c1 : Nat) (x y z q tip : Nat) (A L D : Option Addr) (ca cl cd : Nat) (a l d : List Nat) (wi sp p : Nat) (w : World) (h : Pf w A L D a l d) (hn : Few a l d) (hv : validP a l d = true) (hB : BlkB w b1 x y z A L D a l d ca cl cd q tip) (hC : BlkL w c1 [.float .f32 wi, .float .f32 sp, .float .f32 p]) :
    Calls Tryz.prog 99 #[.func (.func 111) #[] #[.pointer (some ⟨b1, 0, none⟩), .pointer (some ⟨c1, 0, none⟩)]] w fun e w' => e = .returned (.tuple #[.float .f32 (flV (flowS a l d q tip x y z wi sp p 24)), .bool (flowS a l d q tip x y z wi sp p 24).isSome]) ∧ Below w.heap.size w w' := by
  have HP := Lib.hid h; clear h
  have HN := Lib.hid hn; clear hn
  have HV := Lib.hid hv; clear hv
  have HB := Lib.hid hB; clear hB
  have HC := Lib.hid hC; clear hC
  go_enter Tryz.func99, Tryz.ntmps99
  go_wp2_with fail
  go_loopw [4, 5, 9] (fun lo hi i wr => ∃ k u v : Nat, k ≤ 24 ∧ i = .int .i64 k ∧ lo = .float .f32 u ∧ hi = .float .f32 v ∧ Hid (flowS a l d q tip x y z wi sp p k = some (u, v)) ∧ Hid (Below w.heap.size w wr)) (fun _ _ i _ => 24 - (intOf i).toNat)
  case atStart => exact ⟨0, 981668463, 1048508891, Nat.zero_le _, rfl, rfl, rfl, rfl, Lib.hid (Below.refl _ _)⟩
  case round =>
    obtain ⟨k, u, v, hk, rfl, rfl, rfl, hS, hb⟩ := hrel
    by_cases hlt : k < 24
    · obtain ⟨i1, i2⟩ := flowS_bd k u v hS.out
      obtain ⟨i3, i4⟩ := halfW_bd i1 i2
      obtain ⟨e1, e2⟩ := bd_sure i3
      obtain ⟨e3, e4⟩ := bd_sure i4
      clear i1 i2 i3 i4
      obtain ⟨m, hm⟩ : ∃ m, m = halfW u v := ⟨_, rfl⟩
      have HM := Lib.hid hm
      rw [show fop .mul .f32 1056964608 (fop .add .f32 u v) = m from hm.symm] at e3
      clear hm
      have hwr : IntKind.i64.wrap ((k : Int) + 1) = (k : Int) + 1 := IntWalk.i64_in _ (by omega)
      have hge : (0 : Int) ≤ (k : Int) + 1 := by omega
      have htn : ((k : Int) + 1).toNat = k + 1 := by omega
      have hlt0 : (k : Int) < 24 := by omega
      cases hg : balG a l d q tip x y z m wi sp p
      · have HG := Lib.hid hg; clear hg
        go_wp2_with fail
        refine (i_balance _ _ _ _ _ _ _ A L D ca cl cd a l d m wi sp p _ (HP.out.below hb.out) HN.out HV.out (HB.out.below hb.out) (HC.out.below hb.out)).mono ?_
        rintro e w1 ⟨r, rfl, -, b1⟩
        rw [HG.out]
        have B1 : Hid (Below w.heap.size w w1) := Lib.hid (below_of hb.out hb.out.size b1)
        clear b1
        have HS : Hid (flowS a l d q tip x y z wi sp p 24 = none) := Lib.hid (by
          have e := flowS_stay (flowS_no hS.out (by rw [← HM.out]; exact HG.out)) (24 - (k + 1))
          rw [show k + 1 + (24 - (k + 1)) = 24 by omega] at e
          exact e)
        go_wp2
        refine bodyPost_ret (results_tmp2 rfl _ _ _) rfl ?_
        exact ⟨by rw [HS.out]; rfl, B1.out⟩
      · cases ht : gtr32 (balZ a l d q tip x y z m wi sp p) 0
        all_goals
          have HZ := Lib.hid (balR_yes hg)
          have HG := Lib.hid hg; clear hg
          have HT := Lib.hid ht; clear ht
          go_wp2_with fail
          refine (i_balance _ _ _ _ _ _ _ A L D ca cl cd a l d m wi sp p _ (HP.out.below hb.out) HN.out HV.out (HB.out.below hb.out) (HC.out.below hb.out)).mono ?_
          rintro e w1 ⟨r, rfl, hr, b1⟩
          rw [HG.out]
          have hgt : (FloatKind.f32.format.order r 0 == some .gt) = _ := (gtr_canon (hr.trans HZ.out)).trans HT.out
          have B1 : Hid (Below w.heap.size w w1) := Lib.hid (below_of hb.out hb.out.size b1)
          clear b1 hr
          go_wp2
          go_roundw
        · exact ⟨k + 1, m, v, by omega, by go_num, rfl, rfl, Lib.hid (by rw [flowS_lo hS.out (by rw [← HM.out]; exact HG.out) (by rw [← HM.out]; exact HT.out), ← HM.out]), B1⟩
        · simp [intOf]; omega
        · exact ⟨k + 1, u, m, by omega, by go_num, rfl, rfl, Lib.hid (by rw [flowS_hi hS.out (by rw [← HM.out]; exact HG.out) (by rw [← HM.out]; exact HT.out), ← HM.out]), B1⟩
        · simp [intOf]; omega
    · have hkk : k = 24 := by omega
      subst hkk
      go_wp2
      refine bodyPost_ret (results_tmp2 rfl _ _ _) rfl ?_
      exact ⟨by rw [hS.out]; rfl, hb.out⟩
end Go.Proofs.YtahbcpjipomcgaaGreat
