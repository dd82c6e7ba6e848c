/- MirrorProfile: the specification's side. No statement is proved here. -/
import Derived.Test.YtplofbkollhjpaaMirM
import Derived.Test.YtplofbkollhjpaaPut
import Derived.Test.YtplofbkollhjpaaInv6
namespace Go.Proofs.Ytplofbkollhjpaa
open Go Go.RowKit
theorem mir_few (a l d : List Nat) : Few (gLp (validP a l d) (mirA a)) (gLp (validP a l d) (mirA l)) (gLp (validP a l d) (mirD d)) :=
  gL_few (fun h => sized_of (validP_mir h))
set_option maxHeartbeats 16000000 in
set_option maxRecDepth 100000 in
theorem s_MirrorProfile (A L D : Option Addr) (ca cl cd : Nat) (a l d : List Nat)  (w : World) (h : Pf w A L D a l d) (hn : Few a l d) :
    Calls Try.prog 26 #[.agg #[.slice A a.length ca, .slice L l.length cl, .slice D d.length cd]] w fun e w' => ∃ (R1 R2 R3 : Option Addr) (c1 c2 c3 g1 g2 g3 : Nat), e = .returned (.tuple #[.agg #[.slice R1 (gLp (validP a l d) (mirA a)).length c1, .slice R2 (gLp (validP a l d) (mirA l)).length c2, .slice R3 (gLp (validP a l d) (mirD d)).length c3], .bool (validP a l d)]) ∧ OwnQ w' w.heap.size R1 R2 R3 g1 g2 g3 (gLp (validP a l d) (mirA a)) (gLp (validP a l d) (mirA l)) (gLp (validP a l d) (mirD d)) ∧ Below w.heap.size w w' := by
  have HP := Lib.hid h; clear h
  obtain ⟨w0, hw0⟩ : ∃ x, x = (w.alloc (.cells #[.slice A a.length ca, .slice L l.length cl, .slice D d.length cd] 24)).alloc (.cells #[.slice none 0 0, .slice none 0 0, .slice none 0 0] 24) := ⟨_, rfl⟩
  have K0 : Hid (Blk3 w0 w.heap.size (.slice A a.length ca) (.slice L l.length cl) (.slice D d.length cd)) := Lib.hid (by rw [hw0]; exact (blk3_new w _ _ _ _).alloc _)
  have KR : Hid (BlkL w0 (w.heap.size + 1) [.slice none 0 0, .slice none 0 0, .slice none 0 0]) := Lib.hid (by rw [hw0]; exact blkL_at (w.alloc _) #[.slice none 0 0, .slice none 0 0, .slice none 0 0] _ (by simp))
  have B0 : Hid (Below w.heap.size w w0) := Lib.hid (by rw [hw0]; exact ((Below.refl _ _).alloc (Nat.le_refl _) _).alloc (by simp) _)
  have Z0 : Hid (w0.heap.size = w.heap.size + 2) := Lib.hid (by rw [hw0]; simp)
  have HON : Hid (validP a l d = false → (validP a l d) = false) := Lib.hid (fun h => h)
  have HOY : Hid (validP a l d = true → (validP a l d) = validP (mirA a) (mirA l) (mirD d)) := Lib.hid (fun h => by rw [h, validP_mir h])
  have HXA : Hid ((∀ k, k < a.length → (mirA a).getD k 0 = Op.negFloat .f32 (a.getD (a.length - 1 - k) 0)) ∧ (mirA a).length = a.length) := Lib.hid ⟨fun k hk => mirA_at hk, mirA_length _⟩
  have HYA : Hid ((∀ k, k < l.length → (mirA l).getD k 0 = Op.negFloat .f32 (l.getD (l.length - 1 - k) 0)) ∧ (mirA l).length = l.length) := Lib.hid ⟨fun k hk => mirA_at hk, mirA_length _⟩
  have HZA : Hid ((∀ k, k < d.length → (mirD d).getD k 0 = d.getD (d.length - 1 - k) 0) ∧ (mirD d).length = d.length) := Lib.hid ⟨fun k hk => mirD_at hk, mirD_length _⟩
  generalize hO : validP a l d = O at HOY ⊢
  have HOO : Hid (validP a l d = O) := Lib.hid hO
  clear hO HON
  generalize (mirA a) = X at HXA HOY ⊢
  generalize (mirA l) = Y at HYA HOY ⊢
  generalize (mirD d) = Z at HZA HOY ⊢
  go_enter Try.func26, Try.ntmps26
  go_wp2_with fail
  rw [← hw0]
  clear hw0
  refine (s_l02Is A L D ca cl cd a l d w.heap.size _ (HP.out.below B0.out) K0.out hn).mono ?_
  rintro e w1 ⟨n1, rfl, hw⟩
  have b1 : Below w0.heap.size w0 w1 := by rw [hw]; exact below_draws (Below.refl _ _) _
  have L0 : Hid (Blk3 w1 w.heap.size (.slice A a.length ca) (.slice L l.length cl) (.slice D d.length cd)) := Lib.hid (K0.out.below b1)
  have LR : Hid (BlkL w1 (w.heap.size + 1) [.slice none 0 0, .slice none 0 0, .slice none 0 0]) := Lib.hid (KR.out.below b1)
  have B1 : Hid (Below w.heap.size w w1) := Lib.hid (below_of B0.out B0.out.size b1)
  have Z1 : Hid (w.heap.size + 2 ≤ w1.heap.size) := Lib.hid (by have := b1.size; have := Z0.out; omega)
  clear b1 hw K0 KR
  cases v0 : validP a l d
  · have HN : Hid (O = false) := Lib.hid (by rw [← HOO.out]; exact v0)
    clear v0
    have p0 := (LR.out.2 0 _ rfl).1
    have q0 := (LR.out.2 0 _ rfl).2
    have p1 := (LR.out.2 1 _ rfl).1
    have q1 := (LR.out.2 1 _ rfl).2
    have p2 := (LR.out.2 2 _ rfl).1
    have q2 := (LR.out.2 2 _ rfl).2
    go_wp2
    refine bodyPost_ret (v := .tuple #[.agg #[.slice none 0 0, .slice none 0 0, .slice none 0 0], .bool false]) ?_ rfl ?_
    · simp [results, Try.results26, go_sem, p0, p1, p2]
    · rw [HN.out]
      exact ⟨none, none, none, 0, 0, 0, 0, 1, 2, rfl, OwnQ.none _ _, (((B1.out).setCell (p := ⟨w.heap.size + 1, 0, none⟩) (by show w.heap.size ≤ w.heap.size + 1; omega) _).setCell (p := ⟨w.heap.size + 1, 1, none⟩) (by show w.heap.size ≤ w.heap.size + 1; omega) _).setCell (p := ⟨w.heap.size + 1, 2, none⟩) (by show w.heap.size ≤ w.heap.size + 1; omega) _⟩
  · obtain ⟨s1, s2, s3, s4⟩ := sized_of v0
    have HO : Hid (O = validP X Y Z) := Lib.hid (by rw [← HOO.out]; first | exact HOY.out v0 | (rw [HOO.out]; exact HOY.out (by first | exact v0 | (rw [HOO.out] at v0; exact v0))))
    have HT1 : Hid (O = true) := Lib.hid (by rw [← HOO.out]; exact v0)
    have HS3 := Lib.hid s3
    have HS4 := Lib.hid s4
    clear v0 s3 s4
    have hl3 := HS3.out
    have hl4 := HS4.out
    obtain ⟨ba, oa, rfl, hba, -⟩ := (HP.out.1.below B1.out).at_ (k := 0) (by omega)
    obtain ⟨bl, ol, rfl, hbl, -⟩ := (HP.out.2.1.below B1.out).at_ (k := 0) (by omega)
    obtain ⟨bd, od, rfl, hbd, -⟩ := (HP.out.2.2.below B1.out).at_ (k := 0) (by omega)
    clear hl3 hl4
    go_wp2_with fail
    refine (s_l02New _).mono ?_
    rintro e w2 ⟨u1, u2, u3, rfl, b2, g2⟩
    have L2 := Lib.hid (L0.out.below b2)
    have LR2 : Hid (BlkL w2 (w.heap.size + 1) [.slice none 0 0, .slice none 0 0, .slice none 0 0]) := Lib.hid (LR.out.below b2)
    have B2 : Hid (Below w.heap.size w w2) := Lib.hid (below_of B1.out B1.out.size b2)
    have Z2 : Hid (w1.heap.size ≤ w2.heap.size) := Lib.hid b2.size
    have HQ0 := fun t => Lib.hid (g2.pq t)
    clear b2 g2
    have k0 := fun o => (L2.out.alloc o).2.1.1
    have hw0 : IntKind.i64.wrap ((a.length : Int) - 1) = (a.length : Int) - 1 := IntWalk.i64_in _ (by omega)
    go_wp2
    go_loopw [5] (fun i wr => ∃ k : Nat, k ≤ a.length ∧ i = .int .i64 ((a.length : Int) - 1 - (k : Int)) ∧ Hid (PQ w1 w2.heap.size (X.take k) (Y.take k) (Z.take k) wr)) (fun i _ => (intOf i + 1).toNat)
    case atStart => exact ⟨0, Nat.zero_le _, by first | rfl | exact congrArg (Value.int IntKind.i64) (by omega), HQ0 _⟩
    case round =>
      obtain ⟨k, hk, rfl, HQ⟩ := hrel
      clear HQ0 k0
      obtain ⟨-, ⟨k0, k1, k2⟩, -, -, -⟩ := L0.out.below HQ.out.below
      by_cases hlk : k < a.length
      · obtain ⟨j, hj⟩ : ∃ j, j = a.length - 1 - k := ⟨_, rfl⟩
        rw [show (a.length : Int) - 1 - (k : Int) = (j : Int) by omega]
        have hlt : j < a.length := by omega
        have hlt2 : j < l.length := by have := HS3.out; omega
        have hlt3 : j < d.length := by have := HS4.out; omega
        have hw1 : IntKind.i64.wrap ((j : Int) - 1) = (j : Int) - 1 := IntWalk.i64_in _ (by omega)
        have HCA : Hid (∀ ww, Below w1.heap.size w1 ww → ww.cell? ⟨ba, oa + j, none⟩ = some (.float .f32 (a.getD j 0))) := Lib.hid (fun ww hb => ((HP.out.1.below B1.out).below hb).same rfl hlt)
        have HCL : Hid (∀ ww, Below w1.heap.size w1 ww → ww.cell? ⟨bl, ol + j, none⟩ = some (.float .f32 (l.getD j 0))) := Lib.hid (fun ww hb => ((HP.out.2.1.below B1.out).below hb).same rfl hlt2)
        have HCD : Hid (∀ ww, Below w1.heap.size w1 ww → ww.cell? ⟨bd, od + j, none⟩ = some (.float .f32 (d.getD j 0))) := Lib.hid (fun ww hb => ((HP.out.2.2.below B1.out).below hb).same rfl hlt3)
        have HTX : Hid (X.take (k + 1) = X.take k ++ [X.getD k 0]) := Lib.hid (take_snoc (by rw [HXA.out.2]; omega))
        have HTY : Hid (Y.take (k + 1) = Y.take k ++ [Y.getD k 0]) := Lib.hid (take_snoc (by rw [HYA.out.2, HS3.out]; omega))
        have HTZ : Hid (Z.take (k + 1) = Z.take k ++ [Z.getD k 0]) := Lib.hid (take_snoc (by rw [HZA.out.2, HS4.out]; omega))
        have HX1 : Hid (canon .f32 (X.getD k 0) = canon .f32 (Op.negFloat .f32 (a.getD j 0))) := Lib.hid (by rw [HXA.out.1 k hlk, hj])
        have HY1 : Hid (canon .f32 (Y.getD k 0) = canon .f32 (Op.negFloat .f32 (l.getD j 0))) := Lib.hid (by rw [HYA.out.1 k (by rw [HS3.out]; exact hlk), HS3.out, hj])
        have HZ1 : Hid (canon .f32 (Z.getD k 0) = canon .f32 (d.getD j 0)) := Lib.hid (by rw [HZA.out.1 k (by rw [HS4.out]; exact hlk), HS4.out, hj])
        have HJ : Hid ((j : Int) - 1 = (a.length : Int) - 1 - ((k + 1 : Nat) : Int)) := Lib.hid (by omega)
        have HLN : Hid ((X.take k).length ≤ 1048576 ∧ (Y.take k).length ≤ 1048576 ∧ (Z.take k).length ≤ 1048576) := Lib.hid (by simp only [List.length_take]; omega)
        generalize X.take k = X0 at HQ HTX HLN
        generalize Y.take k = Y0 at HQ HTY HLN
        generalize Z.take k = Z0 at HQ HTZ HLN
        generalize X.getD k 0 = x' at HTX HX1
        generalize Y.getD k 0 = y' at HTY HY1
        generalize Z.getD k 0 = z' at HTZ HZ1
        clear hj
        generalize a.getD j 0 = x at HCA HX1
        generalize l.getD j 0 = y at HCL HY1
        generalize d.getD j 0 = z at HCD HZ1
        go_wp2_with fail
        refine wp_region_inv6 (fun iq _ v => match iq with
          | 0 => v = .pointer (some ⟨w.heap.size, 0, none⟩)
          | 1 => v = .slice (some ⟨ba, oa, none⟩) a.length ca
          | 2 => v = .int .i64 j
          | 3 => v = .pointer (some ⟨ba, oa + j, none⟩)
          | 4 => v = .float .f32 x
          | 5 => v = .float .f32 (Op.negFloat .f32 x)
          | 6 => v = .pointer (some ⟨w.heap.size, 1, none⟩)
          | 7 => v = .slice (some ⟨bl, ol, none⟩) l.length cl
          | 8 => v = .int .i64 j
          | 9 => v = .pointer (some ⟨bl, ol + j, none⟩)
          | 10 => v = .float .f32 y
          | 11 => v = .float .f32 (Op.negFloat .f32 y)
          | 12 => v = .pointer (some ⟨w.heap.size, 2, none⟩)
          | 13 => v = .slice (some ⟨bd, od, none⟩) d.length cd
          | 14 => v = .int .i64 j
          | 15 => v = .pointer (some ⟨bd, od + j, none⟩)
          | 16 => v = .float .f32 z
          | 17 => v = .tuple #[]
          | _ => False) (CF 17 w1 w2.heap.size X0 Y0 Z0 (X0 ++ [x']) (Y0 ++ [y']) (Z0 ++ [z'])) (by kernel_rfl) (by kernel_rfl) (CF.start (HQ.out.draws 1)) ?hop ?hend
        case hop =>
          intro q o hq listed act w3 hI hnot hcl hall
          have hC := hI.cls
          have hB := hC.below
          obtain ⟨-, ⟨kx0, kx1, kx2⟩, -, -, -⟩ := L0.out.below hB
          have hca := HCA.out _ hB
          have hcl2 := HCL.out _ hB
          have hcd := HCD.out _ hB
          rcases q with _ | _ | _ | _ | _ | _ | _ | _ | _ | _ | _ | _ | _ | _ | _ | _ | _ | _ | q
          · simp at hq; subst hq
            have g1 : act.tmps[1]?.getD undef = .pointer (some ⟨w.heap.size, 0, none⟩) := hI.kept 1 (by kernel_rfl)
            have hC2 := hC.keep (i := 0) hI.len (by decide) (by decide)
            clear hI hall hnot hcl hC hB
            refine .inl ⟨wanted_none rfl, ?_⟩
            unfold Oper.wp
            go_simp
            all_goals first | exact ⟨_, rfl, fun _ _ _ h => h, rfl, hC2⟩ | exact ⟨_, rfl, rfl, hC2⟩ | exact ⟨fun _ _ _ h => h, rfl, hC2⟩ | exact ⟨rfl, hC2⟩ | exact ⟨_, rfl, hC2⟩ | exact hC2
          · simp at hq; subst hq
            have g18 : act.tmps[18]?.getD undef = .pointer (some ⟨w.heap.size, 0, none⟩) := hI.has 0 18 rfl (hall ⟨0, .data⟩ (by simp) rfl)
            have hC2 := hC.keep (i := 1) hI.len (by decide) (by decide)
            clear hI hall hnot hcl hC hB
            refine .inl ⟨wanted_none rfl, ?_⟩
            unfold Oper.wp
            go_simp
            all_goals first | exact ⟨_, rfl, fun _ _ _ h => h, rfl, hC2⟩ | exact ⟨_, rfl, rfl, hC2⟩ | exact ⟨fun _ _ _ h => h, rfl, hC2⟩ | exact ⟨rfl, hC2⟩ | exact ⟨_, rfl, hC2⟩ | exact hC2
          · simp at hq; subst hq
            have g5 : act.tmps[5]?.getD undef = .int .i64 j := hI.kept 5 (by kernel_rfl)
            have hC2 := hC.keep (i := 2) hI.len (by decide) (by decide)
            clear hI hall hnot hcl hC hB
            refine .inl ⟨wanted_none rfl, ?_⟩
            unfold Oper.wp
            go_simp
            all_goals first | exact ⟨_, rfl, fun _ _ _ h => h, rfl, hC2⟩ | exact ⟨_, rfl, rfl, hC2⟩ | exact ⟨fun _ _ _ h => h, rfl, hC2⟩ | exact ⟨rfl, hC2⟩ | exact ⟨_, rfl, hC2⟩ | exact hC2
          · simp at hq; subst hq
            have g19 : act.tmps[19]?.getD undef = .slice (some ⟨ba, oa, none⟩) a.length ca := hI.has 1 19 rfl (hall ⟨1, .data⟩ (by simp) rfl)
            have g20 : act.tmps[20]?.getD undef = .int .i64 j := hI.has 2 20 rfl (hall ⟨2, .data⟩ (by simp) rfl)
            have hC2 := hC.keep (i := 3) hI.len (by decide) (by decide)
            clear hI hall hnot hcl hC hB
            refine .inl ⟨wanted_none rfl, ?_⟩
            unfold Oper.wp
            go_simp
            all_goals first | exact ⟨_, rfl, fun _ _ _ h => h, rfl, hC2⟩ | exact ⟨_, rfl, rfl, hC2⟩ | exact ⟨fun _ _ _ h => h, rfl, hC2⟩ | exact ⟨rfl, hC2⟩ | exact ⟨_, rfl, hC2⟩ | exact hC2
          · simp at hq; subst hq
            have g21 : act.tmps[21]?.getD undef = .pointer (some ⟨ba, oa + j, none⟩) := hI.has 3 21 rfl (hall ⟨3, .data⟩ (by simp) rfl)
            have hC2 := hC.keep (i := 4) hI.len (by decide) (by decide)
            clear hI hall hnot hcl hC hB
            refine .inl ⟨wanted_none rfl, ?_⟩
            unfold Oper.wp
            go_simp
            all_goals first | exact ⟨_, rfl, fun _ _ _ h => h, rfl, hC2⟩ | exact ⟨_, rfl, rfl, hC2⟩ | exact ⟨fun _ _ _ h => h, rfl, hC2⟩ | exact ⟨rfl, hC2⟩ | exact ⟨_, rfl, hC2⟩ | exact hC2
          · simp at hq; subst hq
            have g22 : act.tmps[22]?.getD undef = .float .f32 x := hI.has 4 22 rfl (hall ⟨4, .data⟩ (by simp) rfl)
            have hC2 := hC.keep (i := 5) hI.len (by decide) (by decide)
            clear hI hall hnot hcl hC hB
            refine .inl ⟨wanted_none rfl, ?_⟩
            unfold Oper.wp
            go_simp
            all_goals first | exact ⟨_, rfl, fun _ _ _ h => h, rfl, hC2⟩ | exact ⟨_, rfl, rfl, hC2⟩ | exact ⟨fun _ _ _ h => h, rfl, hC2⟩ | exact ⟨rfl, hC2⟩ | exact ⟨_, rfl, hC2⟩ | exact hC2
          · simp at hq; subst hq
            have g1 : act.tmps[1]?.getD undef = .pointer (some ⟨w.heap.size, 0, none⟩) := hI.kept 1 (by kernel_rfl)
            have hC2 := hC.keep (i := 6) hI.len (by decide) (by decide)
            clear hI hall hnot hcl hC hB
            refine .inl ⟨wanted_none rfl, ?_⟩
            unfold Oper.wp
            go_simp
            all_goals first | exact ⟨_, rfl, fun _ _ _ h => h, rfl, hC2⟩ | exact ⟨_, rfl, rfl, hC2⟩ | exact ⟨fun _ _ _ h => h, rfl, hC2⟩ | exact ⟨rfl, hC2⟩ | exact ⟨_, rfl, hC2⟩ | exact hC2
          · simp at hq; subst hq
            have g24 : act.tmps[24]?.getD undef = .pointer (some ⟨w.heap.size, 1, none⟩) := hI.has 6 24 rfl (hall ⟨6, .data⟩ (by simp) rfl)
            have hC2 := hC.keep (i := 7) hI.len (by decide) (by decide)
            clear hI hall hnot hcl hC hB
            refine .inl ⟨wanted_none rfl, ?_⟩
            unfold Oper.wp
            go_simp
            all_goals first | exact ⟨_, rfl, fun _ _ _ h => h, rfl, hC2⟩ | exact ⟨_, rfl, rfl, hC2⟩ | exact ⟨fun _ _ _ h => h, rfl, hC2⟩ | exact ⟨rfl, hC2⟩ | exact ⟨_, rfl, hC2⟩ | exact hC2
          · simp at hq; subst hq
            have g5 : act.tmps[5]?.getD undef = .int .i64 j := hI.kept 5 (by kernel_rfl)
            have hC2 := hC.keep (i := 8) hI.len (by decide) (by decide)
            clear hI hall hnot hcl hC hB
            refine .inl ⟨wanted_none rfl, ?_⟩
            unfold Oper.wp
            go_simp
            all_goals first | exact ⟨_, rfl, fun _ _ _ h => h, rfl, hC2⟩ | exact ⟨_, rfl, rfl, hC2⟩ | exact ⟨fun _ _ _ h => h, rfl, hC2⟩ | exact ⟨rfl, hC2⟩ | exact ⟨_, rfl, hC2⟩ | exact hC2
          · simp at hq; subst hq
            have g25 : act.tmps[25]?.getD undef = .slice (some ⟨bl, ol, none⟩) l.length cl := hI.has 7 25 rfl (hall ⟨7, .data⟩ (by simp) rfl)
            have g26 : act.tmps[26]?.getD undef = .int .i64 j := hI.has 8 26 rfl (hall ⟨8, .data⟩ (by simp) rfl)
            have hC2 := hC.keep (i := 9) hI.len (by decide) (by decide)
            clear hI hall hnot hcl hC hB
            refine .inl ⟨wanted_none rfl, ?_⟩
            unfold Oper.wp
            go_simp
            all_goals first | exact ⟨_, rfl, fun _ _ _ h => h, rfl, hC2⟩ | exact ⟨_, rfl, rfl, hC2⟩ | exact ⟨fun _ _ _ h => h, rfl, hC2⟩ | exact ⟨rfl, hC2⟩ | exact ⟨_, rfl, hC2⟩ | exact hC2
          · simp at hq; subst hq
            have g27 : act.tmps[27]?.getD undef = .pointer (some ⟨bl, ol + j, none⟩) := hI.has 9 27 rfl (hall ⟨9, .data⟩ (by simp) rfl)
            have hC2 := hC.keep (i := 10) hI.len (by decide) (by decide)
            clear hI hall hnot hcl hC hB
            refine .inl ⟨wanted_none rfl, ?_⟩
            unfold Oper.wp
            go_simp
            all_goals first | exact ⟨_, rfl, fun _ _ _ h => h, rfl, hC2⟩ | exact ⟨_, rfl, rfl, hC2⟩ | exact ⟨fun _ _ _ h => h, rfl, hC2⟩ | exact ⟨rfl, hC2⟩ | exact ⟨_, rfl, hC2⟩ | exact hC2
          · simp at hq; subst hq
            have g28 : act.tmps[28]?.getD undef = .float .f32 y := hI.has 10 28 rfl (hall ⟨10, .data⟩ (by simp) rfl)
            have hC2 := hC.keep (i := 11) hI.len (by decide) (by decide)
            clear hI hall hnot hcl hC hB
            refine .inl ⟨wanted_none rfl, ?_⟩
            unfold Oper.wp
            go_simp
            all_goals first | exact ⟨_, rfl, fun _ _ _ h => h, rfl, hC2⟩ | exact ⟨_, rfl, rfl, hC2⟩ | exact ⟨fun _ _ _ h => h, rfl, hC2⟩ | exact ⟨rfl, hC2⟩ | exact ⟨_, rfl, hC2⟩ | exact hC2
          · simp at hq; subst hq
            have g1 : act.tmps[1]?.getD undef = .pointer (some ⟨w.heap.size, 0, none⟩) := hI.kept 1 (by kernel_rfl)
            have hC2 := hC.keep (i := 12) hI.len (by decide) (by decide)
            clear hI hall hnot hcl hC hB
            refine .inl ⟨wanted_none rfl, ?_⟩
            unfold Oper.wp
            go_simp
            all_goals first | exact ⟨_, rfl, fun _ _ _ h => h, rfl, hC2⟩ | exact ⟨_, rfl, rfl, hC2⟩ | exact ⟨fun _ _ _ h => h, rfl, hC2⟩ | exact ⟨rfl, hC2⟩ | exact ⟨_, rfl, hC2⟩ | exact hC2
          · simp at hq; subst hq
            have g30 : act.tmps[30]?.getD undef = .pointer (some ⟨w.heap.size, 2, none⟩) := hI.has 12 30 rfl (hall ⟨12, .data⟩ (by simp) rfl)
            have hC2 := hC.keep (i := 13) hI.len (by decide) (by decide)
            clear hI hall hnot hcl hC hB
            refine .inl ⟨wanted_none rfl, ?_⟩
            unfold Oper.wp
            go_simp
            all_goals first | exact ⟨_, rfl, fun _ _ _ h => h, rfl, hC2⟩ | exact ⟨_, rfl, rfl, hC2⟩ | exact ⟨fun _ _ _ h => h, rfl, hC2⟩ | exact ⟨rfl, hC2⟩ | exact ⟨_, rfl, hC2⟩ | exact hC2
          · simp at hq; subst hq
            have g5 : act.tmps[5]?.getD undef = .int .i64 j := hI.kept 5 (by kernel_rfl)
            have hC2 := hC.keep (i := 14) hI.len (by decide) (by decide)
            clear hI hall hnot hcl hC hB
            refine .inl ⟨wanted_none rfl, ?_⟩
            unfold Oper.wp
            go_simp
            all_goals first | exact ⟨_, rfl, fun _ _ _ h => h, rfl, hC2⟩ | exact ⟨_, rfl, rfl, hC2⟩ | exact ⟨fun _ _ _ h => h, rfl, hC2⟩ | exact ⟨rfl, hC2⟩ | exact ⟨_, rfl, hC2⟩ | exact hC2
          · simp at hq; subst hq
            have g31 : act.tmps[31]?.getD undef = .slice (some ⟨bd, od, none⟩) d.length cd := hI.has 13 31 rfl (hall ⟨13, .data⟩ (by simp) rfl)
            have g32 : act.tmps[32]?.getD undef = .int .i64 j := hI.has 14 32 rfl (hall ⟨14, .data⟩ (by simp) rfl)
            have hC2 := hC.keep (i := 15) hI.len (by decide) (by decide)
            clear hI hall hnot hcl hC hB
            refine .inl ⟨wanted_none rfl, ?_⟩
            unfold Oper.wp
            go_simp
            all_goals first | exact ⟨_, rfl, fun _ _ _ h => h, rfl, hC2⟩ | exact ⟨_, rfl, rfl, hC2⟩ | exact ⟨fun _ _ _ h => h, rfl, hC2⟩ | exact ⟨rfl, hC2⟩ | exact ⟨_, rfl, hC2⟩ | exact hC2
          · simp at hq; subst hq
            have g33 : act.tmps[33]?.getD undef = .pointer (some ⟨bd, od + j, none⟩) := hI.has 15 33 rfl (hall ⟨15, .data⟩ (by simp) rfl)
            have hC2 := hC.keep (i := 16) hI.len (by decide) (by decide)
            clear hI hall hnot hcl hC hB
            refine .inl ⟨wanted_none rfl, ?_⟩
            unfold Oper.wp
            go_simp
            all_goals first | exact ⟨_, rfl, fun _ _ _ h => h, rfl, hC2⟩ | exact ⟨_, rfl, rfl, hC2⟩ | exact ⟨fun _ _ _ h => h, rfl, hC2⟩ | exact ⟨rfl, hC2⟩ | exact ⟨_, rfl, hC2⟩ | exact hC2
          · simp at hq; subst hq
            have g4 : act.tmps[4]?.getD undef = .pointer (some ⟨w2.heap.size, 0, none⟩) := hI.kept 4 (by kernel_rfl)
            have g23 : act.tmps[23]?.getD undef = .float .f32 (Op.negFloat .f32 x) := hI.has 5 23 rfl (hall ⟨5, .data⟩ (by simp) rfl)
            have g29 : act.tmps[29]?.getD undef = .float .f32 (Op.negFloat .f32 y) := hI.has 11 29 rfl (hall ⟨11, .data⟩ (by simp) rfl)
            have g34 : act.tmps[34]?.getD undef = .float .f32 z := hI.has 16 34 rfl (hall ⟨16, .data⟩ (by simp) rfl)
            have hlen := hI.len
            have hC1 := hC.ahead hnot
            clear hI hall hnot hcl hC hB
            refine .inl ⟨wanted_none rfl, ?_⟩
            unfold Oper.wp
            go_simp
            refine (s_l02Put _ _ _ x' y' z' _ _ _ _ w1 w3 hC1 HLN.out ((rfl : canon .f32 _ = _).trans HX1.out.symm) ((rfl : canon .f32 _ = _).trans HY1.out.symm) ((rfl : canon .f32 _ = _).trans HZ1.out.symm)).mono ?_
            rintro e w4 ⟨rfl, hQ⟩
            first | exact ⟨_, rfl, fun _ _ _ h => h, rfl, CF.call hQ hlen (by decide)⟩ | exact ⟨_, rfl, rfl, CF.call hQ hlen (by decide)⟩ | exact ⟨rfl, CF.call hQ hlen (by decide)⟩ | exact CF.call hQ hlen (by decide)
          · simp at hq
        case hend =>
          intro listed act w3 hI hall
          have hC := hI.cls
          have hB := hC.below
          obtain ⟨-, ⟨kx0, kx1, kx2⟩, -, -, -⟩ := L0.out.below hB
          have hca := HCA.out _ hB
          have hcl2 := HCL.out _ hB
          have hcd := HCD.out _ hB
          have hQ := (hI.cls).done (hall 17 (by decide))
          have g5 := hI.kept 5 (by kernel_rfl)
          conv at g5 => rhs; whnf
          have g0 := hI.kept 0 (by kernel_rfl)
          conv at g0 => rhs; whnf
          have g1 := hI.kept 1 (by kernel_rfl)
          conv at g1 => rhs; whnf
          have g2 := hI.kept 2 (by kernel_rfl)
          conv at g2 => rhs; whnf
          have g3 := hI.kept 3 (by kernel_rfl)
          conv at g3 => rhs; whnf
          have g4 := hI.kept 4 (by kernel_rfl)
          conv at g4 => rhs; whnf
          have g6 := hI.kept 6 (by kernel_rfl)
          conv at g6 => rhs; whnf
          have g7 := hI.kept 7 (by kernel_rfl)
          conv at g7 => rhs; whnf
          have g9 := hI.kept 9 (by kernel_rfl)
          conv at g9 => rhs; whnf
          have g10 := hI.kept 10 (by kernel_rfl)
          conv at g10 => rhs; whnf
          have g11 := hI.kept 11 (by kernel_rfl)
          conv at g11 => rhs; whnf
          have g12 := hI.kept 12 (by kernel_rfl)
          conv at g12 => rhs; whnf
          have g13 := hI.kept 13 (by kernel_rfl)
          conv at g13 => rhs; whnf
          have g36 : act.tmps[36]?.getD undef = undef := hI.kept 36 (by kernel_rfl)
          have g8 : act.tmps[8]?.getD undef = undef := hI.kept 8 (by kernel_rfl)
          have hsz : act.tmps.size = 37 := hI.size.trans (by kernel_rfl)
          have hd := hI.defers
          clear hI hall
          obtain ⟨tt, dd⟩ := act
          simp only at g0 g1 g2 g3 g4 g5 g6 g7 g8 g9 g10 g11 g12 g13 g36 hsz hd
          subst hd
          have hl : tt = #[tt[0]?.getD undef, tt[1]?.getD undef, tt[2]?.getD undef, tt[3]?.getD undef, tt[4]?.getD undef, tt[5]?.getD undef, tt[6]?.getD undef, tt[7]?.getD undef, tt[8]?.getD undef, tt[9]?.getD undef, tt[10]?.getD undef, tt[11]?.getD undef, tt[12]?.getD undef, tt[13]?.getD undef, tt[14]?.getD undef, tt[15]?.getD undef, tt[16]?.getD undef, tt[17]?.getD undef, tt[18]?.getD undef, tt[19]?.getD undef, tt[20]?.getD undef, tt[21]?.getD undef, tt[22]?.getD undef, tt[23]?.getD undef, tt[24]?.getD undef, tt[25]?.getD undef, tt[26]?.getD undef, tt[27]?.getD undef, tt[28]?.getD undef, tt[29]?.getD undef, tt[30]?.getD undef, tt[31]?.getD undef, tt[32]?.getD undef, tt[33]?.getD undef, tt[34]?.getD undef, tt[35]?.getD undef, tt[36]?.getD undef] := (arr_lit hsz).trans rfl
          rw [g0, g1, g2, g3, g4, g5, g6, g7, g8, g9, g10, g11, g12, g13, g36] at hl
          clear g0 g1 g2 g3 g4 g5 g6 g7 g8 g9 g10 g11 g12 g13 g36 hsz
          generalize tt[14]?.getD undef = y14 at hl
          generalize tt[15]?.getD undef = y15 at hl
          generalize tt[16]?.getD undef = y16 at hl
          generalize tt[17]?.getD undef = y17 at hl
          generalize tt[18]?.getD undef = y18 at hl
          generalize tt[19]?.getD undef = y19 at hl
          generalize tt[20]?.getD undef = y20 at hl
          generalize tt[21]?.getD undef = y21 at hl
          generalize tt[22]?.getD undef = y22 at hl
          generalize tt[23]?.getD undef = y23 at hl
          generalize tt[24]?.getD undef = y24 at hl
          generalize tt[25]?.getD undef = y25 at hl
          generalize tt[26]?.getD undef = y26 at hl
          generalize tt[27]?.getD undef = y27 at hl
          generalize tt[28]?.getD undef = y28 at hl
          generalize tt[29]?.getD undef = y29 at hl
          generalize tt[30]?.getD undef = y30 at hl
          generalize tt[31]?.getD undef = y31 at hl
          generalize tt[32]?.getD undef = y32 at hl
          generalize tt[33]?.getD undef = y33 at hl
          generalize tt[34]?.getD undef = y34 at hl
          generalize tt[35]?.getD undef = y35 at hl
          subst hl
          have HQ2 := Lib.hid hQ
          clear hQ
          go_wp2
          go_roundw
          case rel => exact ⟨k + 1, by omega, congrArg (Value.int IntKind.i64) HJ.out, Lib.hid (by rw [HTX.out, HTY.out, HTZ.out]; exact HQ2.out)⟩
          case measure => simp [intOf] <;> omega
      · have hkk : k = a.length := by omega
        rw [show (a.length : Int) - 1 - (k : Int) = -1 by omega]
        rw [List.take_of_length_le (by rw [HXA.out.2]; omega), List.take_of_length_le (by rw [HYA.out.2, HS3.out]; omega), List.take_of_length_le (by rw [HZA.out.2, HS4.out]; omega)] at HQ
        have HXL : Hid (X.length = a.length) := Lib.hid HXA.out.2
        have HYL : Hid (Y.length = a.length) := Lib.hid (HYA.out.2.trans HS3.out)
        have HZL : Hid (Z.length = a.length) := Lib.hid (HZA.out.2.trans HS4.out)
        clear k0 k1 k2 hkk hlk hk
        obtain ⟨v1, v2, v3, xs, ys, zs, hF, c1, c2, c3⟩ := HQ.out
        have hnx : xs ≠ [] := by intro e; have h1 := congrArg List.length e; have h2 := c1.1; have h3 := HXL.out; simp only [List.length_nil] at h1; omega
        have hny : ys ≠ [] := by intro e; have h1 := congrArg List.length e; have h2 := c2.1; have h3 := HYL.out; simp only [List.length_nil] at h1; omega
        have hnz : zs ≠ [] := by intro e; have h1 := congrArg List.length e; have h2 := c3.1; have h3 := HZL.out; simp only [List.length_nil] at h1; omega
        obtain ⟨R1, R2, R3, d1, d2, d3, g1, g2, g3, rfl, rfl, rfl, hown⟩ := hF.g.own hnx hny hnz
        obtain ⟨rfl, rfl, rfl⟩ := validP_eq c1 c2 c3 (by rw [← HO.out, HT1.out])
        have BL : Hid (BlkL wr w2.heap.size [.slice R1 xs.length d1, .slice R2 ys.length d2, .slice R3 zs.length d3]) := Lib.hid hF.blk
        have B6 : Hid (Below w.heap.size w wr) := Lib.hid (below_of B1.out B1.out.size hF.g.below)
        have LR6 : Hid (BlkL wr (w.heap.size + 1) [.slice none 0 0, .slice none 0 0, .slice none 0 0]) := Lib.hid (LR.out.below hF.g.below)
        have HO6 := Lib.hid hown
        clear hF hown c1 c2 c3 hnx hny hnz HQ
        obtain ⟨o0, o1, o2⟩ := BL.out.three
        have p0 := (LR6.out.2 0 _ rfl).1
        have q0 := (LR6.out.2 0 _ rfl).2
        have p1 := (LR6.out.2 1 _ rfl).1
        have q1 := (LR6.out.2 1 _ rfl).2
        have p2 := (LR6.out.2 2 _ rfl).1
        have q2 := (LR6.out.2 2 _ rfl).2
        go_wp2
        refine bodyPost_ret (v := .tuple #[.agg #[.slice R1 xs.length d1, .slice R2 ys.length d2, .slice R3 zs.length d3], .bool true]) ?_ rfl ?_
        · simp [results, Try.results26, go_sem, p0, p1, p2]
        · rw [HT1.out]
          have z1 := Z1.out
          exact ⟨R1, R2, R3, d1, d2, d3, g1, g2, g3, rfl, ((((HO6.out).setC (p := ⟨w.heap.size + 1, 0, none⟩) (by show w.heap.size + 1 < _; omega) _).setC (p := ⟨w.heap.size + 1, 1, none⟩) (by show w.heap.size + 1 < _; omega) _).setC (p := ⟨w.heap.size + 1, 2, none⟩) (by show w.heap.size + 1 < _; omega) _).base (by omega), (((B6.out).setCell (p := ⟨w.heap.size + 1, 0, none⟩) (by show w.heap.size ≤ w.heap.size + 1; omega) _).setCell (p := ⟨w.heap.size + 1, 1, none⟩) (by show w.heap.size ≤ w.heap.size + 1; omega) _).setCell (p := ⟨w.heap.size + 1, 2, none⟩) (by show w.heap.size ≤ w.heap.size + 1; omega) _⟩
end Go.Proofs.Ytplofbkollhjpaa
