/- TurnRose: the specification's side. No statement is proved here. -/
import Derived.Test.YtleimkejjpggmaaTurM
import Derived.Deep.AppendLies
import Derived.Deep.RegionLaw
namespace Go.Proofs.Ytleimkejjpggmaa
open Go Go.RowKit
/-- the second list has grown and is stored again -/
theorem FR.putY {w0 wr w1 : World} {Bo m : Nat} {v v' v2 : Value} {xs ys zs : List Nat} {o : Obj} (h : FR w0 wr Bo v v' xs ys) (hm : m = zs.length)
    (ho : w1.ownsRow w0.heap.size 26 1 v2 (ys.length + m) (ys.map (Value.float .f32) ++ zs.map (Value.float .f32))) (hg : (wr.alloc o).grownBy w1 v'.ownBlock) (hat : v2.ownBlock = v'.ownBlock ∨ v2.ownBlock = some (wr.alloc o).heap.size) :
    FR w0 (w1.setCell ⟨Bo, 1, none⟩ v2) Bo v v2 xs (ys ++ zs) := by
  subst hm
  have hlt := h.blk.1
  have hsz : (wr.alloc o).heap.size = wr.heap.size + 1 := by simp
  have g1 : Gr w1 w0.heap.size v2 (ys ++ zs) := by unfold Gr; simpa using ho
  have n2 : v2.ownBlock ≠ some Bo := by
    rcases hat with e | e
    · rw [e]; exact h.ny
    · rw [e]; intro hh; cases hh; omega
  have gxA : Gr (wr.alloc o) w0.heap.size v xs := h.gx.below ((Below.refl _ _).alloc (Nat.le_refl _) _)
  have gx1 : Gr w1 w0.heap.size v xs := by
    refine gxA.keptR hg ?_
    cases e : v.ownBlock with
    | none => exact .inl rfl
    | some k => exact .inr (fun e2 => h.nv k e e2.symm)
  have b1 : Below w0.heap.size w0 w1 := (h.below.alloc h.below.size o).grown hg (by have := h.below.size; omega) (fun k hk => (h.gy.ltR hk).1)
  have k1 : BlkL w1 Bo [v, v'] := (h.blk.alloc o).keptR hg h.ny
  refine ⟨k1.set (i := 1) (by simp) v2, gx1.setCellR h.nx _, g1.setCellR n2 _, ?_, h.nx, n2, b1.setCell h.hB _, h.hB⟩
  intro k hk hk'
  rcases hat with e | e
  · exact h.nv k hk (by rw [← e]; exact hk')
  · rw [e] at hk'; cases hk'
    have := (h.gx.ltR hk).2
    omega
theorem FR.midY {w0 wr w1 : World} {Bo : Nat} {v v' : Value} {xs ys : List Nat} {o : Obj} (h : FR w0 wr Bo v v' xs ys) (hg : (wr.alloc o).grownBy w1 v'.ownBlock) : BlkL w1 Bo [v, v'] := (h.blk.alloc o).keptR hg h.ny
set_option maxHeartbeats 16000000 in
set_option maxRecDepth 20000 in
theorem s_TurnRose (A L : Option Addr) (ca cl : Nat) (a l : List Nat) (y : Int) (w : World) (h : Rs w A L a l) (hn : FewS a l) :
    Calls Try.prog 30 #[.agg #[.slice A a.length ca, .slice L l.length cl], .int .i64 y] w fun e w' => ∃ (R1 R2 : Option Addr) (c1 c2 g1 g2 : Nat), e = .returned (.tuple #[.agg #[.slice R1 (gLn (trnO a l y) (trnL a y)).length c1, .slice R2 (gLn (trnO a l y) (trnL l y)).length c2], .bool (trnO a l y)]) ∧ OwnR2 w' w.heap.size R1 R2 g1 g2 (gLn (trnO a l y) (trnL a y)) (gLn (trnO a l y) (trnL l y)) ∧ Below w.heap.size w w' := by
  obtain ⟨i0, hi, hz0, hz1, hz2⟩ := info_parts f32_info
  have HP := Lib.hid h; clear h
  have HNF := Lib.hid hn
  obtain ⟨w0, hw0⟩ : ∃ x, x = (w.alloc (.cells #[.slice A a.length ca, .slice L l.length cl] 47)).alloc (.cells #[.slice none 0 0, .slice none 0 0] 47) := ⟨_, rfl⟩
  have K0 : Hid (BlkL w0 w.heap.size [.slice A a.length ca, .slice L l.length cl]) := Lib.hid (by rw [hw0]; exact (blkL_at w #[.slice A a.length ca, .slice L l.length cl] _ rfl).alloc _)
  have KR : Hid (BlkL w0 (w.heap.size + 1) [.slice none 0 0, .slice none 0 0]) := Lib.hid (by rw [hw0]; exact blkL_at (w.alloc _) #[.slice none 0 0, .slice none 0 0] _ (by simp))
  have B0 : Hid (Below w.heap.size w w0) := Lib.hid (by rw [hw0]; exact ((Below.refl _ _).alloc (Nat.le_refl _) _).alloc (by simp) _)
  have Z0 : Hid (w0.heap.size = w.heap.size + 2) := Lib.hid (by rw [hw0]; simp)
  go_enter Try.func30, Try.ntmps30
  go_wp2_with fail
  rw [← hw0]
  clear hw0
  refine (s_l04Rose A L ca cl a l _ _ (HP.out.below B0.out) hn K0.out).mono ?_
  rintro e w2 ⟨rfl, n1, hw⟩
  have b1 : Below w0.heap.size w0 w2 := by rw [hw]; exact below_draws (Below.refl _ _) _
  have L2 : Hid (BlkL w2 w.heap.size [.slice A a.length ca, .slice L l.length cl]) := Lib.hid (K0.out.below b1)
  have LR2 : Hid (BlkL w2 (w.heap.size + 1) [.slice none 0 0, .slice none 0 0]) := Lib.hid (KR.out.below b1)
  have B2 : Hid (Below w.heap.size w w2) := Lib.hid (below_of B0.out B0.out.size b1)
  have Z2 : Hid (w.heap.size + 2 ≤ w2.heap.size) := Lib.hid (by have := b1.size; have := Z0.out; omega)
  clear b1 hw K0 KR B0 Z0
  cases v : rosV a l
  · have HN := Lib.hid (trnO_v (y := y) v); clear v
    have p0 := (LR2.out.2 0 _ rfl).1
    have q0 := (LR2.out.2 0 _ rfl).2
    have p1 := (LR2.out.2 1 _ rfl).1
    have q1 := (LR2.out.2 1 _ rfl).2
    go_wp2
    refine bodyPost_ret (v := .tuple #[.agg #[.slice none 0 0, .slice none 0 0], .bool false]) ?_ rfl ?_
    · simp [results, Try.results30, go_sem, p0, p1]
    · rw [HN.out]
      exact ⟨none, none, 0, 0, 0, 1, rfl, ⟨.inl rfl, .inl rfl, by decide⟩, ((B2.out).setCell (p := ⟨w.heap.size + 1, 0, none⟩) (by show w.heap.size ≤ w.heap.size + 1; omega) _).setCell (p := ⟨w.heap.size + 1, 1, none⟩) (by show w.heap.size ≤ w.heap.size + 1; omega) _⟩
  · have V := Lib.hid v
    obtain ⟨s1, s2, s3⟩ := rosV_sized v
    have S3 := Lib.hid s3
    clear v s3
    go_wp2_with fail
    refine (s_l00In _ _ _ _).mono ?_
    rintro e w3 ⟨rfl, rfl⟩
    rw [show (decide ((-16 : Int) ≤ y) && decide (y ≤ 16)) = decide (-16 ≤ y ∧ y ≤ 16) by simp]
    by_cases hy : -16 ≤ y ∧ y ≤ 16
    · have HN := Lib.hid (trnO_yes V.out hy)
      rw [decide_eq_true hy]
      obtain ⟨y1, y2⟩ := hy
      have k0 := (L2.out.2 0 _ rfl).1
      have HF0 : Hid (FR w3 (((w3.alloc (.cells #[] 26)).alloc (.cells #[] 26)).alloc (.cells #[.slice (some ⟨w3.heap.size, 0, none⟩) 0 0, .slice (some ⟨w3.heap.size + 1, 0, none⟩) 0 0] 47)) (w3.heap.size + 2) (.slice (some ⟨w3.heap.size, 0, none⟩) 0 0) (.slice (some ⟨w3.heap.size + 1, 0, none⟩) 0 0) [] []) := Lib.hid (by
        refine ⟨blkL_at ((w3.alloc _).alloc _) #[_, _] _ (by simp), ?_, ?_, ?_, ?_, ?_, (((Below.refl _ _).alloc (Nat.le_refl _) _).alloc (by simp) _).alloc (by simp; omega) _, by omega⟩
        · have h1 := Gr.made w3 w3.heap.size 0 #[] (Nat.le_refl _) (Nat.zero_le _) rfl
          exact (h1.below ((Below.refl _ _).alloc (Nat.le_refl _) _)).below ((Below.refl _ _).alloc (Nat.le_refl _) _)
        · have h1 := Gr.made (w3.alloc (.cells #[] 26)) w3.heap.size 0 #[] (by simp) (Nat.zero_le _) rfl
          rw [show (w3.alloc (.cells #[] 26)).heap.size = w3.heap.size + 1 by simp] at h1
          exact h1.below ((Below.refl _ _).alloc (Nat.le_refl _) _)
        · intro k hk hk'
          have hk : w3.heap.size = k := Option.some.inj hk
          have hk' : w3.heap.size + 1 = k := Option.some.inj hk'
          omega
        · intro hk
          have hk : w3.heap.size = w3.heap.size + 2 := Option.some.inj hk
          omega
        · intro hk
          have hk : w3.heap.size + 1 = w3.heap.size + 2 := Option.some.inj hk
          omega)
      go_wp2
      go_loopw [8] (fun i wr => ∃ (k : Nat) (v v' : Value) (xs ys : List Nat), k ≤ a.length ∧ i = .int .i64 k ∧ Hid (FR w3 wr (w3.heap.size + 2) v v' xs ys) ∧ Hid (xs.length = k) ∧ Hid (ys.length = k) ∧ Hid (∀ j, j < k → xs.getD j 0 = a.getD (trnJ y a.length j) 0) ∧ Hid (∀ j, j < k → ys.getD j 0 = l.getD (trnJ y a.length j) 0)) (fun i _ => a.length - (intOf i).toNat)
      case atStart => exact ⟨0, _, _, [], [], Nat.zero_le _, rfl, HF0, rfl, rfl, Lib.hid (fun j hj => absurd hj (Nat.not_lt_zero j)), Lib.hid (fun j hj => absurd hj (Nat.not_lt_zero j))⟩
      case round =>
        obtain ⟨k, v, v', xs, ys, hk, rfl, HF, HL, HL', HQ, HQ'⟩ := hrel
        clear HF0 k0
        by_cases hlt : k < a.length
        · obtain ⟨hj, hjn⟩ := trnJ_is (y := y) (n := a.length) (k := k) s1
          have ht := turn_is (y := y) s1 hlt y2
          rw [hj] at ht
          have hw1 : IntKind.i64.wrap ((k : Int) - y) = (k : Int) - y := IntWalk.i64_in _ (by omega)
          have hw2 : IntKind.i64.wrap ((a.length : Int) * 16) = (a.length : Int) * 16 := IntWalk.i64_in _ (by omega)
          have hw3 : IntKind.i64.wrap ((k : Int) - y + (a.length : Int) * 16) = (k : Int) - y + (a.length : Int) * 16 := IntWalk.i64_in _ (by omega)
          obtain ⟨j, hjj⟩ : ∃ x, x = trnJ y a.length k := ⟨_, rfl⟩
          rw [← hjj] at ht hjn
          have hjl : j < l.length := by have := S3.out; omega
          have HJ := Lib.hid hjj
          clear hjj hj
          obtain ⟨b1, off1, rfl, hb1, hc1⟩ := (HP.out.1.below B2.out).at_ hjn
          obtain ⟨b2, off2, rfl, hb2, hc2⟩ := (HP.out.2.below B2.out).at_ hjl
          have hneA : (a.length : Int) ≠ 0 := by omega
          have HXJ : Hid (a.getD j 0 = a.getD j 0) := rfl
          obtain ⟨p, hp⟩ : ∃ x, x = a.getD j 0 := ⟨_, rfl⟩
          obtain ⟨q, hq⟩ : ∃ x, x = l.getD j 0 := ⟨_, rfl⟩
          rw [← hp] at hc1
          rw [← hq] at hc2
          have HPJ := Lib.hid hp
          have HQJ := Lib.hid hq
          have HC1 := Lib.hid hc1
          have HC2 := Lib.hid hc2
          clear hp hq hc1 hc2 HXJ
          obtain ⟨Av, cv, gv, rfl, -⟩ := HF.out.gx.own
          have LW1 := L2.out.below HF.out.below
          have hm1 := HF.out.below.cell (p := ⟨b1, off1 + j, none⟩) hb1
          rw [HC1.out] at hm1
          have kk1 := (LW1.2 0 _ rfl).1
          have ff1 := (HF.out.blk.2 0 _ rfl).1
          have fg1 := (HF.out.blk.2 0 _ rfl).2
          have ee1 : ((wr.alloc (.cells #[.float .f32 p] 26)).drew).cell? ⟨w3.heap.size + 2, 0, none⟩ = some (.slice Av xs.length cv) := ((HF.out.blk.alloc _).2 0 _ rfl).1
          have hn11 : w3.heap.size + 2 ≠ wr.heap.size := by have := HF.out.blk.1; omega
          have hn21 : w.heap.size ≠ wr.heap.size := by have := LW1.1; omega
          have hn31 : b1 ≠ wr.heap.size := by have := HF.out.below.size; omega
          have HFA1 : Hid (∀ o, World.ownsRow ((wr.drewN 1).alloc o) w3.heap.size 26 1 (.slice Av xs.length cv) xs.length (xs.map (Value.float .f32))) := Lib.hid (fun o => (HF.out.draws 1).gx.below ((Below.refl _ _).alloc (Nat.le_refl _) o))
          have hl631 : Hid (xs.length + 1 ≤ maxLen) := Lib.hid (by have := HL.out; have := HL'.out; unfold maxLen; omega)
          have hl471 : Hid ((xs.length + 1) * 4 ≤ 140737488355328) := Lib.hid (by have := HL.out; have := HL'.out; omega)
          have hlb1 : Hid (w3.heap.size ≤ wr.heap.size + 1) := Lib.hid (by have := HF.out.below.size; omega)
          have HPX1 := Lib.hid (fun (w9 : World) (g cap : Nat) (ho : w9.ownsRow w3.heap.size 26 1 (.slice (some ⟨g, 0, none⟩) (xs.length + 1) cap) (xs.length + 1) (xs.map (Value.float .f32) ++ [Value.float .f32 p])) (hg : ((wr.drewN 1).alloc (.cells #[.float .f32 p] 26)).grownBy w9 (Value.ownBlock (.slice Av xs.length cv))) (hat : Value.ownBlock (.slice Av xs.length cv) = some g ∨ g = wr.heap.size + 1) =>
            FR.putX (m := 1) (zs := [p]) (HF.out.draws 1) rfl (by simpa using ho) hg (by
              rcases hat with e | e
              · exact .inl e.symm
              · right; rw [e]; simp; rfl))
          have HMX1 := Lib.hid (fun (w9 : World) (hg : ((wr.drewN 1).alloc (.cells #[.float .f32 p] 26)).grownBy w9 (Value.ownBlock (.slice Av xs.length cv))) => (HF.out.draws 1).midX hg)
          clear LW1
          go_wp2
          go_region_law (refine step_append_lies _ rfl (.tmp 38) (.tmp 44) 22 rfl w3.heap.size 26 i0 (.float .f32 0) 1 4 Try.underlying22 hi hz0 hz1 hz2 rfl (by decide) (.slice Av xs.length cv) xs.length (xs.map (Value.float .f32)) (by simp [Act.eval, Act.put]) (HFA1.out _) ⟨wr.heap.size, 0, none⟩ 1 1 [.float .f32 p] (by simp [Act.eval, Act.put]) rfl (cell_one_new _ _ _) (by intro u hu; simp at hu; subst hu; rfl) (by decide) hl631.out hl471.out (by have := hlb1.out; simp; omega) (wr.heap.size + 1) (by simp) ?_; intro g1 cap1 w91 hown' hgrow hat hlt9; have HG1 := Lib.hid (HPX1.out w91 g1 cap1 hown' hgrow hat); have pp1 := ((HMX1.out w91 hgrow).2 0 _ rfl).1; have qq1 := ((HMX1.out w91 hgrow).2 0 _ rfl).2; clear hown' hgrow hat hlt9)
          all_goals
            clear kk1 ff1 fg1 ee1 hn11 hn21 hn31 HFA1 hl631 hl471 hlb1 HPX1 HMX1 hm1 pp1 qq1
            obtain ⟨wr2, hwr2⟩ : ∃ x, x = World.setCell w91 ⟨w3.heap.size + 2, 0, none⟩ (.slice (some ⟨g1, 0, none⟩) (xs.length + 1) cap1) := ⟨_, rfl⟩
            rw [← hwr2] at HG1 ⊢
            clear hwr2
            obtain ⟨Aw, cw, gw, rfl, -⟩ := HG1.out.gy.own
            have LW2 := L2.out.below HG1.out.below
            have hm2 := HG1.out.below.cell (p := ⟨b2, off2 + j, none⟩) hb2
            rw [HC2.out] at hm2
            have kk2 := (LW2.2 1 _ rfl).1
            have ff2 := (HG1.out.blk.2 1 _ rfl).1
            have fg2 := (HG1.out.blk.2 1 _ rfl).2
            have ee2 : ((wr2.alloc (.cells #[.float .f32 q] 26)).drew).cell? ⟨w3.heap.size + 2, 1, none⟩ = some (.slice Aw ys.length cw) := ((HG1.out.blk.alloc _).2 1 _ rfl).1
            have hn12 : w3.heap.size + 2 ≠ wr2.heap.size := by have := HG1.out.blk.1; omega
            have hn22 : w.heap.size ≠ wr2.heap.size := by have := LW2.1; omega
            have hn32 : b2 ≠ wr2.heap.size := by have := HG1.out.below.size; omega
            have HFA2 : Hid (∀ o, World.ownsRow ((wr2.drewN 1).alloc o) w3.heap.size 26 1 (.slice Aw ys.length cw) ys.length (ys.map (Value.float .f32))) := Lib.hid (fun o => (HG1.out.draws 1).gy.below ((Below.refl _ _).alloc (Nat.le_refl _) o))
            have hl632 : Hid (ys.length + 1 ≤ maxLen) := Lib.hid (by have := HL.out; have := HL'.out; unfold maxLen; omega)
            have hl472 : Hid ((ys.length + 1) * 4 ≤ 140737488355328) := Lib.hid (by have := HL.out; have := HL'.out; omega)
            have hlb2 : Hid (w3.heap.size ≤ wr2.heap.size + 1) := Lib.hid (by have := HG1.out.below.size; omega)
            have HPX2 := Lib.hid (fun (w9 : World) (g cap : Nat) (ho : w9.ownsRow w3.heap.size 26 1 (.slice (some ⟨g, 0, none⟩) (ys.length + 1) cap) (ys.length + 1) (ys.map (Value.float .f32) ++ [Value.float .f32 q])) (hg : ((wr2.drewN 1).alloc (.cells #[.float .f32 q] 26)).grownBy w9 (Value.ownBlock (.slice Aw ys.length cw))) (hat : Value.ownBlock (.slice Aw ys.length cw) = some g ∨ g = wr2.heap.size + 1) =>
              FR.putY (m := 1) (zs := [q]) (HG1.out.draws 1) rfl (by simpa using ho) hg (by
                rcases hat with e | e
                · exact .inl e.symm
                · right; rw [e]; simp; rfl))
            have HMX2 := Lib.hid (fun (w9 : World) (hg : ((wr2.drewN 1).alloc (.cells #[.float .f32 q] 26)).grownBy w9 (Value.ownBlock (.slice Aw ys.length cw))) => (HG1.out.draws 1).midY hg)
            clear LW2
            go_wp2
            go_region_law (refine step_append_lies _ rfl (.tmp 48) (.tmp 54) 22 rfl w3.heap.size 26 i0 (.float .f32 0) 1 4 Try.underlying22 hi hz0 hz1 hz2 rfl (by decide) (.slice Aw ys.length cw) ys.length (ys.map (Value.float .f32)) (by simp [Act.eval, Act.put]) (HFA2.out _) ⟨wr2.heap.size, 0, none⟩ 1 1 [.float .f32 q] (by simp [Act.eval, Act.put]) rfl (cell_one_new _ _ _) (by intro u hu; simp at hu; subst hu; rfl) (by decide) hl632.out hl472.out (by have := hlb2.out; simp; omega) (wr2.heap.size + 1) (by simp) ?_; intro g2 cap2 w92 hown' hgrow hat hlt9; have HG2 := Lib.hid (HPX2.out w92 g2 cap2 hown' hgrow hat); have pp2 := ((HMX2.out w92 hgrow).2 1 _ rfl).1; have qq2 := ((HMX2.out w92 hgrow).2 1 _ rfl).2; clear hown' hgrow hat hlt9)
            all_goals
              clear kk2 ff2 fg2 ee2 hn12 hn22 hn32 HFA2 hl632 hl472 hlb2 HPX2 HMX2 hm2 pp2 qq2
              clear ht hw1 hw2 hw3 hneA
              go_wp2
              go_roundw
              case rel =>
                refine ⟨k + 1, _, _, xs ++ [p], ys ++ [q], by omega, by go_num, HG2, Lib.hid (by simp [HL.out]), Lib.hid (by simp [HL'.out]), Lib.hid (fun i hi => ?_), Lib.hid (fun i hi => ?_)⟩
                · rw [getD_snoc _ _ _ (by rw [HL.out]; exact hi), HL.out]
                  by_cases e : i = k
                  · rw [if_pos e, HPJ.out, HJ.out, e]
                  · rw [if_neg e]; exact HQ.out i (by omega)
                · rw [getD_snoc _ _ _ (by rw [HL'.out]; exact hi), HL'.out]
                  by_cases e : i = k
                  · rw [if_pos e, HQJ.out, HJ.out, e]
                  · rw [if_neg e]; exact HQ'.out i (by omega)
              case measure => simp [intOf]; omega
        · have hkk : k = a.length := by omega
          subst hkk
          obtain rfl : xs = trnL a y := trnL_is HL.out HQ.out
          obtain rfl : ys = trnL l y := trnL_is (by rw [HL'.out, S3.out]) (fun i hi => by rw [S3.out] at hi ⊢; exact HQ'.out i hi)
          obtain ⟨Av, cv, gv, rfl, hox⟩ := HF.out.gx.own
          obtain ⟨Aw, cw, gw, rfl, hoy⟩ := HF.out.gy.own
          have HX := Lib.hid hox
          have HY := Lib.hid hoy
          clear hox hoy
          have f0 := (HF.out.blk.2 0 _ rfl).1
          have f1 := (HF.out.blk.2 1 _ rfl).1
          have LR5 : Hid (BlkL wr (w.heap.size + 1) [.slice none 0 0, .slice none 0 0]) := Lib.hid (LR2.out.below HF.out.below)
          have B5 : Hid (Below w.heap.size w wr) := Lib.hid (below_of B2.out B2.out.size HF.out.below)
          have k0 := ((L2.out.below HF.out.below).2 0 _ rfl).1
          have p0 := (LR5.out.2 0 _ rfl).1
          have q0 := (LR5.out.2 0 _ rfl).2
          have p1 := (LR5.out.2 1 _ rfl).1
          have q1 := (LR5.out.2 1 _ rfl).2
          go_wp2
          refine bodyPost_ret (v := .tuple #[.agg #[.slice Av (trnL a y).length cv, .slice Aw (trnL l y).length cw], .bool true]) ?_ rfl ?_
          · simp [results, Try.results30, go_sem, p0, p1]
          · rw [HN.out]
            refine ⟨Av, Aw, cv, cw, gv, gw, rfl, ?_, ((B5.out).setCell (p := ⟨w.heap.size + 1, 0, none⟩) (by show w.heap.size ≤ w.heap.size + 1; omega) _).setCell (p := ⟨w.heap.size + 1, 1, none⟩) (by show w.heap.size ≤ w.heap.size + 1; omega) _⟩
            have z2 := Z2.out
            have hl := S3.out
            have ha : (trnL a y).length = a.length := trnL_length a y
            have hla : (trnL l y).length = l.length := trnL_length l y
            rcases HX.out with h0 | ⟨rfl, hx1, hx2⟩
            · exfalso; rw [h0] at ha; simp at ha; omega
            · rcases HY.out with h0 | ⟨rfl, hy1, hy2⟩
              · exfalso; rw [h0] at hla; simp at hla; omega
              · have hne : gv ≠ gw := fun e => HF.out.nv gv rfl (by rw [e]; rfl)
                exact ⟨Own.o (((hx2).setCell (p := ⟨w.heap.size + 1, 0, none⟩) (by show w.heap.size + 1 ≠ _; omega) _).setCell (p := ⟨w.heap.size + 1, 1, none⟩) (by show w.heap.size + 1 ≠ _; omega) _) (by omega), Own.o (((hy2).setCell (p := ⟨w.heap.size + 1, 0, none⟩) (by show w.heap.size + 1 ≠ _; omega) _).setCell (p := ⟨w.heap.size + 1, 1, none⟩) (by show w.heap.size + 1 ≠ _; omega) _) (by omega), hne⟩
    · have HN := Lib.hid (trnO_y (a := a) (l := l) hy)
      rw [decide_eq_false hy]
      clear hy
      have p0 := (LR2.out.2 0 _ rfl).1
      have q0 := (LR2.out.2 0 _ rfl).2
      have p1 := (LR2.out.2 1 _ rfl).1
      have q1 := (LR2.out.2 1 _ rfl).2
      go_wp2
      refine bodyPost_ret (v := .tuple #[.agg #[.slice none 0 0, .slice none 0 0], .bool false]) ?_ rfl ?_
      · simp [results, Try.results30, go_sem, p0, p1]
      · rw [HN.out]
        exact ⟨none, none, 0, 0, 0, 1, rfl, ⟨.inl rfl, .inl rfl, by decide⟩, ((B2.out).setCell (p := ⟨w.heap.size + 1, 0, none⟩) (by show w.heap.size ≤ w.heap.size + 1; omega) _).setCell (p := ⟨w.heap.size + 1, 1, none⟩) (by show w.heap.size ≤ w.heap.size + 1; omega) _⟩
end Go.Proofs.Ytleimkejjpggmaa
