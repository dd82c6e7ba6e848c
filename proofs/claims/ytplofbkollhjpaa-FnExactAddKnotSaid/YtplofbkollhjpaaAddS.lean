/- AddKnot: the specification's side. No statement is proved here. -/
import Derived.Test.YtplofbkollhjpaaAddM
import Derived.Test.YtplofbkollhjpaaPut
import Derived.Test.YtplofbkollhjpaaInv6
namespace Go.Proofs.Ytplofbkollhjpaa
open Go Go.RowKit
set_option maxHeartbeats 16000000 in
set_option maxRecDepth 100000 in
theorem s_AddKnot (A L D : Option Addr) (ca cl cd : Nat) (a l d : List Nat) (q u v : Nat) (w : World) (h : Pf w A L D a l d) (hn : Few a l d) :
    Calls Try.prog 21 #[.agg #[.slice A a.length ca, .slice L l.length cl, .slice D d.length cd], .float .f32 q, .float .f32 u, .float .f32 v] w fun e w' => ∃ (R1 R2 R3 : Option Addr) (c1 c2 c3 g1 g2 g3 : Nat), e = .returned (.tuple #[.agg #[.slice R1 (gLp (addO a l d q u v) (addL a a q q)).length c1, .slice R2 (gLp (addO a l d q u v) (addL a l q u)).length c2, .slice R3 (gLp (addO a l d q u v) (addL a d q v)).length c3], .bool (addO a l d q u v)]) ∧ OwnQ w' w.heap.size R1 R2 R3 g1 g2 g3 (gLp (addO a l d q u v) (addL a a q q)) (gLp (addO a l d q u v) (addL a l q u)) (gLp (addO a l d q u v) (addL a d q v)) ∧ Below w.heap.size w w' := by
  have HP := Lib.hid h; clear h
  obtain ⟨w0, hw0⟩ : ∃ x, x = (w.alloc (.cells #[.slice A a.length ca, .slice L l.length cl, .slice D d.length cd] 24)).alloc (.cells #[.slice none 0 0, .slice none 0 0, .slice none 0 0] 24) := ⟨_, rfl⟩
  have K0 : Hid (Blk3 w0 w.heap.size (.slice A a.length ca) (.slice L l.length cl) (.slice D d.length cd)) := Lib.hid (by rw [hw0]; exact (blk3_new w _ _ _ _).alloc _)
  have KR : Hid (BlkL w0 (w.heap.size + 1) [.slice none 0 0, .slice none 0 0, .slice none 0 0]) := Lib.hid (by rw [hw0]; exact blkL_at (w.alloc _) #[.slice none 0 0, .slice none 0 0, .slice none 0 0] _ (by simp))
  have B0 : Hid (Below w.heap.size w w0) := Lib.hid (by rw [hw0]; exact ((Below.refl _ _).alloc (Nat.le_refl _) _).alloc (by simp) _)
  have Z0 : Hid (w0.heap.size = w.heap.size + 2) := Lib.hid (by rw [hw0]; simp)
  have HON : Hid (validP a l d = false → addO a l d q u v = false) := Lib.hid addO_v
  have HOW : Hid (within q 3204448256 1056964608 = false → addO a l d q u v = false) := Lib.hid addO_w
  have HOY : Hid (validP a l d = true → within q 3204448256 1056964608 = true → addO a l d q u v = validP (addL a a q q) (addL a l q u) (addL a d q v)) := Lib.hid addO_y
  have HWE : Hid (within q 3204448256 1056964608 = ((FloatKind.f32.format.order q 3204448256 == some .gt || FloatKind.f32.format.order q 3204448256 == some .eq) && (FloatKind.f32.format.order q 1056964608 == some .lt || FloatKind.f32.format.order q 1056964608 == some .eq))) := rfl
  have HXA : Hid ((addL a a q q) = if addP a q a.length then addK a a q q a.length else addK a a q q a.length ++ [q]) := rfl
  have HYA : Hid ((addL a l q u) = if addP a q a.length then addK a l q u a.length else addK a l q u a.length ++ [u]) := rfl
  have HZA : Hid ((addL a d q v) = if addP a q a.length then addK a d q v a.length else addK a d q v a.length ++ [v]) := rfl
  have HXL : Hid ((addL a a q q).length = a.length + 1) := Lib.hid (addL_length ..)
  have HYL : Hid ((addL a l q u).length = a.length + 1) := Lib.hid (addL_length ..)
  have HZL : Hid ((addL a d q v).length = a.length + 1) := Lib.hid (addL_length ..)
  generalize addO a l d q u v = O at HON HOW HOY ⊢
  generalize (addL a a q q) = X at HXA HOY HXL ⊢
  generalize (addL a l q u) = Y at HYA HOY HYL ⊢
  generalize (addL a d q v) = Z at HZA HOY HZL ⊢
  generalize within q 3204448256 1056964608 = wi at HWE HOW HOY
  go_enter Try.func21, Try.ntmps21
  go_wp2_with fail
  rw [← hw0]
  clear hw0
  refine (s_l02Is A L D ca cl cd a l d w.heap.size _ (HP.out.below B0.out) K0.out hn).mono ?_
  rintro e w1 ⟨n1, rfl, hw⟩
  have b1 : Below w0.heap.size w0 w1 := by rw [hw]; exact below_draws (Below.refl _ _) _
  have L0 : Hid (Blk3 w1 w.heap.size (.slice A a.length ca) (.slice L l.length cl) (.slice D d.length cd)) := Lib.hid (K0.out.below b1)
  have LR : Hid (BlkL w1 (w.heap.size + 1) [.slice none 0 0, .slice none 0 0, .slice none 0 0]) := Lib.hid (KR.out.below b1)
  have B1 : Hid (Below w.heap.size w w1) := Lib.hid (below_of B0.out B0.out.size b1)
  have Z1 : Hid (w.heap.size + 2 ≤ w1.heap.size) := Lib.hid (by have := b1.size; have := Z0.out; omega)
  clear b1 hw K0 KR
  cases v0 : validP a l d
  · have HN := Lib.hid (HON.out v0)
    clear v0
    have p0 := (LR.out.2 0 _ rfl).1
    have q0 := (LR.out.2 0 _ rfl).2
    have p1 := (LR.out.2 1 _ rfl).1
    have q1 := (LR.out.2 1 _ rfl).2
    have p2 := (LR.out.2 2 _ rfl).1
    have q2 := (LR.out.2 2 _ rfl).2
    go_wp2
    refine bodyPost_ret (v := .tuple #[.agg #[.slice none 0 0, .slice none 0 0, .slice none 0 0], .bool false]) ?_ rfl ?_
    · simp [results, Try.results21, go_sem, p0, p1, p2]
    · rw [HN.out]
      exact ⟨none, none, none, 0, 0, 0, 0, 1, 2, rfl, OwnQ.none _ _, (((B1.out).setCell (p := ⟨w.heap.size + 1, 0, none⟩) (by show w.heap.size ≤ w.heap.size + 1; omega) _).setCell (p := ⟨w.heap.size + 1, 1, none⟩) (by show w.heap.size ≤ w.heap.size + 1; omega) _).setCell (p := ⟨w.heap.size + 1, 2, none⟩) (by show w.heap.size ≤ w.heap.size + 1; omega) _⟩
  · obtain ⟨s1, s2, s3, s4⟩ := sized_of v0
    have V0 := Lib.hid v0
    have HS3 := Lib.hid s3
    have HS4 := Lib.hid s4
    clear v0 s3 s4
    cases c1 : (FloatKind.f32.format.order q 3204448256 == some .gt || FloatKind.f32.format.order q 3204448256 == some .eq)
    · have HN := Lib.hid (HOW.out (by rw [HWE.out, c1]; rfl))
      have p0 := (LR.out.2 0 _ rfl).1
      have q0 := (LR.out.2 0 _ rfl).2
      have p1 := (LR.out.2 1 _ rfl).1
      have q1 := (LR.out.2 1 _ rfl).2
      have p2 := (LR.out.2 2 _ rfl).1
      have q2 := (LR.out.2 2 _ rfl).2
      go_wp2
      refine bodyPost_ret (v := .tuple #[.agg #[.slice none 0 0, .slice none 0 0, .slice none 0 0], .bool false]) ?_ rfl ?_
      · simp [results, Try.results21, go_sem, p0, p1, p2]
      · rw [HN.out]
        exact ⟨none, none, none, 0, 0, 0, 0, 1, 2, rfl, OwnQ.none _ _, (((B1.out).setCell (p := ⟨w.heap.size + 1, 0, none⟩) (by show w.heap.size ≤ w.heap.size + 1; omega) _).setCell (p := ⟨w.heap.size + 1, 1, none⟩) (by show w.heap.size ≤ w.heap.size + 1; omega) _).setCell (p := ⟨w.heap.size + 1, 2, none⟩) (by show w.heap.size ≤ w.heap.size + 1; omega) _⟩
    · cases c2 : (FloatKind.f32.format.order q 1056964608 == some .lt || FloatKind.f32.format.order q 1056964608 == some .eq)
      · have HN := Lib.hid (HOW.out (by rw [HWE.out, c1, c2]; rfl))
        have p0 := (LR.out.2 0 _ rfl).1
        have q0 := (LR.out.2 0 _ rfl).2
        have p1 := (LR.out.2 1 _ rfl).1
        have q1 := (LR.out.2 1 _ rfl).2
        have p2 := (LR.out.2 2 _ rfl).1
        have q2 := (LR.out.2 2 _ rfl).2
        go_wp2
        refine bodyPost_ret (v := .tuple #[.agg #[.slice none 0 0, .slice none 0 0, .slice none 0 0], .bool false]) ?_ rfl ?_
        · simp [results, Try.results21, go_sem, p0, p1, p2]
        · rw [HN.out]
          exact ⟨none, none, none, 0, 0, 0, 0, 1, 2, rfl, OwnQ.none _ _, (((B1.out).setCell (p := ⟨w.heap.size + 1, 0, none⟩) (by show w.heap.size ≤ w.heap.size + 1; omega) _).setCell (p := ⟨w.heap.size + 1, 1, none⟩) (by show w.heap.size ≤ w.heap.size + 1; omega) _).setCell (p := ⟨w.heap.size + 1, 2, none⟩) (by show w.heap.size ≤ w.heap.size + 1; omega) _⟩
      · have HO := Lib.hid (HOY.out V0.out (by rw [HWE.out, c1, c2]; rfl))
        clear HOW HWE HON
        have hl3 := HS3.out
        have hl4 := HS4.out
        obtain ⟨ba, oa, rfl, hba, -⟩ := (HP.out.1.below B1.out).at_ (k := 0) (by omega)
        obtain ⟨bl, ol, rfl, hbl, -⟩ := (HP.out.2.1.below B1.out).at_ (k := 0) (by omega)
        obtain ⟨bd, od, rfl, hbd, -⟩ := (HP.out.2.2.below B1.out).at_ (k := 0) (by omega)
        clear hl3 hl4
        go_wp2_with fail
        refine (s_l02New _).mono ?_
        rintro e w2 ⟨u1, u2, u3, rfl, b2, g2⟩
        have L2 := Lib.hid (L0.out.below b2)
        have LR2 : Hid (BlkL w2 (w.heap.size + 1) [.slice none 0 0, .slice none 0 0, .slice none 0 0]) := Lib.hid (LR.out.below b2)
        have B2 : Hid (Below w.heap.size w w2) := Lib.hid (below_of B1.out B1.out.size b2)
        have Z2 : Hid (w1.heap.size ≤ w2.heap.size) := Lib.hid b2.size
        have HQ0 := fun t => Lib.hid (g2.pq t)
        clear b2 g2
        clear c1 c2
        go_wp2
        go_loopw [11, 12] (fun p i wr => ∃ k : Nat, k ≤ a.length ∧ p = .bool (addP a q k) ∧ i = .int .i64 k ∧ Hid (PQ w1 w2.heap.size (addK a a q q k) (addK a l q u k) (addK a d q v k) wr)) (fun _ i _ => a.length - (intOf i).toNat)
        case atStart => exact ⟨0, Nat.zero_le _, rfl, rfl, HQ0 _⟩
        case round =>
          obtain ⟨k, hk, rfl, rfl, HQ⟩ := hrel
          clear HQ0
          obtain ⟨-, ⟨k0, k1, k2⟩, -, -, -⟩ := L0.out.below HQ.out.below
          by_cases hlt : k < a.length
          · have hlt2 : k < l.length := by have := HS3.out; omega
            have hlt3 : k < d.length := by have := HS4.out; omega
            have HCA : Hid (∀ ww, Below w1.heap.size w1 ww → ww.cell? ⟨ba, oa + k, none⟩ = some (.float .f32 (a.getD k 0))) := Lib.hid (fun ww hb => ((HP.out.1.below B1.out).below hb).same rfl hlt)
            have HCL : Hid (∀ ww, Below w1.heap.size w1 ww → ww.cell? ⟨bl, ol + k, none⟩ = some (.float .f32 (l.getD k 0))) := Lib.hid (fun ww hb => ((HP.out.2.1.below B1.out).below hb).same rfl hlt2)
            have HCD : Hid (∀ ww, Below w1.heap.size w1 ww → ww.cell? ⟨bd, od + k, none⟩ = some (.float .f32 (d.getD k 0))) := Lib.hid (fun ww hb => ((HP.out.2.2.below B1.out).below hb).same rfl hlt3)
            obtain ⟨c, hc⟩ : ∃ c, c = lss32 q (a.getD k 0) := ⟨_, rfl⟩
            have HC := Lib.hid hc
            have HPN0 : Hid (addP a q (k + 1) = (addP a q k || c)) := Lib.hid (by rw [hc]; rfl)
            have HTX : Hid (addP a q k = true ∨ c = false → addK a a q q (k + 1) = addK a a q q k ++ [a.getD k 0]) := Lib.hid (fun h => by rw [hc] at h; simp only [addK]; rw [if_neg (by rcases h with h | h <;> rw [h] <;> simp)])
            have HUX : Hid (addP a q k = false → c = true → addK a a q q (k + 1) = addK a a q q k ++ [q] ++ [a.getD k 0]) := Lib.hid (fun h h2 => by rw [hc] at h2; simp only [addK]; rw [if_pos (by simp only [h, h2]; rfl)])
            have HTY : Hid (addP a q k = true ∨ c = false → addK a l q u (k + 1) = addK a l q u k ++ [l.getD k 0]) := Lib.hid (fun h => by rw [hc] at h; simp only [addK]; rw [if_neg (by rcases h with h | h <;> rw [h] <;> simp)])
            have HUY : Hid (addP a q k = false → c = true → addK a l q u (k + 1) = addK a l q u k ++ [u] ++ [l.getD k 0]) := Lib.hid (fun h h2 => by rw [hc] at h2; simp only [addK]; rw [if_pos (by simp only [h, h2]; rfl)])
            have HTZ : Hid (addP a q k = true ∨ c = false → addK a d q v (k + 1) = addK a d q v k ++ [d.getD k 0]) := Lib.hid (fun h => by rw [hc] at h; simp only [addK]; rw [if_neg (by rcases h with h | h <;> rw [h] <;> simp)])
            have HUZ : Hid (addP a q k = false → c = true → addK a d q v (k + 1) = addK a d q v k ++ [v] ++ [d.getD k 0]) := Lib.hid (fun h h2 => by rw [hc] at h2; simp only [addK]; rw [if_pos (by simp only [h, h2]; rfl)])
            have hca := HCA.out wr HQ.out.below
            have HLM : Hid ((addK a a q q k).length ≤ 1048000 ∧ (addK a l q u k).length ≤ 1048000 ∧ (addK a d q v k).length ≤ 1048000) := Lib.hid (by simp only [addK_length]; have hb1 := (show (addP a q k).toNat ≤ 1 by cases addP a q k <;> decide); omega)
            have HLN : Hid ((addK a a q q k).length ≤ 1048576 ∧ (addK a l q u k).length ≤ 1048576 ∧ (addK a d q v k).length ≤ 1048576) := Lib.hid (by have := HLM.out; omega)
            obtain ⟨PN, hpn⟩ : ∃ z, z = addP a q (k + 1) := ⟨_, rfl⟩
            have HPE : Hid (addP a q (k + 1) = PN) := Lib.hid hpn.symm
            have HPN : Hid (PN = (addP a q k || c)) := Lib.hid (hpn.trans HPN0.out)
            clear hc hpn HPN0
            generalize addK a a q q k = X0 at HQ HTX HUX HLN HLM
            generalize addK a l q u k = Y0 at HQ HTY HUY HLN HLM
            generalize addK a d q v k = Z0 at HQ HTZ HUZ HLN HLM
            obtain ⟨x', hx'⟩ : ∃ x, x = a.getD k 0 := ⟨_, rfl⟩
            have HX1 : Hid (canon .f32 x' = canon .f32 (a.getD k 0)) := Lib.hid (by rw [hx'])
            rw [← hx'] at HTX HUX
            obtain ⟨y', hy'⟩ : ∃ x, x = l.getD k 0 := ⟨_, rfl⟩
            have HY1 : Hid (canon .f32 y' = canon .f32 (l.getD k 0)) := Lib.hid (by rw [hy'])
            rw [← hy'] at HTY HUY
            obtain ⟨z', hz'⟩ : ∃ x, x = d.getD k 0 := ⟨_, rfl⟩
            have HZ1 : Hid (canon .f32 z' = canon .f32 (d.getD k 0)) := Lib.hid (by rw [hz'])
            rw [← hz'] at HTZ HUZ
            clear hx' hy' hz'
            generalize a.getD k 0 = x at HCA HX1 HC hca
            generalize l.getD k 0 = y at HCL HY1
            generalize d.getD k 0 = z at HCD HZ1
            unfold lss32 at HC
            generalize addP a q k = p at HPN HTX HTY HTZ HUX HUY HUZ ⊢
            cases p
            case true =>
              have HP2 : Hid (PN = true) := Lib.hid (by rw [HPN.out]; rfl)
              have HT := Lib.hid (show _ ∧ _ ∧ _ from ⟨HTX.out (.inl rfl), HTY.out (.inl rfl), HTZ.out (.inl rfl)⟩)
              clear HTX HTY HTZ HUX HUY HUZ HPN HC
              go_wp2_with fail
              refine wp_region_inv6 (fun iq _ v => match iq with
                | 0 => v = .pointer (some ⟨w.heap.size, 0, none⟩)
                | 1 => v = .slice (some ⟨ba, oa, none⟩) a.length ca
                | 2 => v = .int .i64 k
                | 3 => v = .pointer (some ⟨ba, oa + k, none⟩)
                | 4 => v = .float .f32 x
                | 5 => v = .pointer (some ⟨w.heap.size, 1, none⟩)
                | 6 => v = .slice (some ⟨bl, ol, none⟩) l.length cl
                | 7 => v = .int .i64 k
                | 8 => v = .pointer (some ⟨bl, ol + k, none⟩)
                | 9 => v = .float .f32 y
                | 10 => v = .pointer (some ⟨w.heap.size, 2, none⟩)
                | 11 => v = .slice (some ⟨bd, od, none⟩) d.length cd
                | 12 => v = .int .i64 k
                | 13 => v = .pointer (some ⟨bd, od + k, none⟩)
                | 14 => v = .float .f32 z
                | 15 => v = .tuple #[]
                | _ => False) (CF 15 w1 w2.heap.size X0 Y0 Z0 (X0 ++ [x']) (Y0 ++ [y']) (Z0 ++ [z'])) (by kernel_rfl) (by kernel_rfl) (CF.start (HQ.out.draws 1)) ?hop ?hend
              case hop =>
                intro q o hq listed act w3 hI hnot hcl hall
                have hC := hI.cls
                have hB := hC.below
                obtain ⟨-, ⟨kx0, kx1, kx2⟩, -, -, -⟩ := L0.out.below hB
                have hca := HCA.out _ hB
                have hcl2 := HCL.out _ hB
                have hcd := HCD.out _ hB
                rcases q with _ | _ | _ | _ | _ | _ | _ | _ | _ | _ | _ | _ | _ | _ | _ | _ | q
                · simp at hq; subst hq
                  have g4 : act.tmps[4]?.getD undef = .pointer (some ⟨w.heap.size, 0, none⟩) := hI.kept 4 (by kernel_rfl)
                  have hC2 := hC.keep (i := 0) hI.len (by decide) (by decide)
                  clear hI hall hnot hcl hC hB
                  refine .inl ⟨wanted_none rfl, ?_⟩
                  unfold Oper.wp
                  go_simp
                  all_goals first | exact ⟨_, rfl, fun _ _ _ h => h, rfl, hC2⟩ | exact ⟨_, rfl, rfl, hC2⟩ | exact ⟨fun _ _ _ h => h, rfl, hC2⟩ | exact ⟨rfl, hC2⟩ | exact ⟨_, rfl, hC2⟩ | exact hC2
                · simp at hq; subst hq
                  have g48 : act.tmps[48]?.getD undef = .pointer (some ⟨w.heap.size, 0, none⟩) := hI.has 0 48 rfl (hall ⟨0, .data⟩ (by simp) rfl)
                  have hC2 := hC.keep (i := 1) hI.len (by decide) (by decide)
                  clear hI hall hnot hcl hC hB
                  refine .inl ⟨wanted_none rfl, ?_⟩
                  unfold Oper.wp
                  go_simp
                  all_goals first | exact ⟨_, rfl, fun _ _ _ h => h, rfl, hC2⟩ | exact ⟨_, rfl, rfl, hC2⟩ | exact ⟨fun _ _ _ h => h, rfl, hC2⟩ | exact ⟨rfl, hC2⟩ | exact ⟨_, rfl, hC2⟩ | exact hC2
                · simp at hq; subst hq
                  have g12 : act.tmps[12]?.getD undef = .int .i64 k := hI.kept 12 (by kernel_rfl)
                  have hC2 := hC.keep (i := 2) hI.len (by decide) (by decide)
                  clear hI hall hnot hcl hC hB
                  refine .inl ⟨wanted_none rfl, ?_⟩
                  unfold Oper.wp
                  go_simp
                  all_goals first | exact ⟨_, rfl, fun _ _ _ h => h, rfl, hC2⟩ | exact ⟨_, rfl, rfl, hC2⟩ | exact ⟨fun _ _ _ h => h, rfl, hC2⟩ | exact ⟨rfl, hC2⟩ | exact ⟨_, rfl, hC2⟩ | exact hC2
                · simp at hq; subst hq
                  have g49 : act.tmps[49]?.getD undef = .slice (some ⟨ba, oa, none⟩) a.length ca := hI.has 1 49 rfl (hall ⟨1, .data⟩ (by simp) rfl)
                  have g50 : act.tmps[50]?.getD undef = .int .i64 k := hI.has 2 50 rfl (hall ⟨2, .data⟩ (by simp) rfl)
                  have hC2 := hC.keep (i := 3) hI.len (by decide) (by decide)
                  clear hI hall hnot hcl hC hB
                  refine .inl ⟨wanted_none rfl, ?_⟩
                  unfold Oper.wp
                  go_simp
                  all_goals first | exact ⟨_, rfl, fun _ _ _ h => h, rfl, hC2⟩ | exact ⟨_, rfl, rfl, hC2⟩ | exact ⟨fun _ _ _ h => h, rfl, hC2⟩ | exact ⟨rfl, hC2⟩ | exact ⟨_, rfl, hC2⟩ | exact hC2
                · simp at hq; subst hq
                  have g51 : act.tmps[51]?.getD undef = .pointer (some ⟨ba, oa + k, none⟩) := hI.has 3 51 rfl (hall ⟨3, .data⟩ (by simp) rfl)
                  have hC2 := hC.keep (i := 4) hI.len (by decide) (by decide)
                  clear hI hall hnot hcl hC hB
                  refine .inl ⟨wanted_none rfl, ?_⟩
                  unfold Oper.wp
                  go_simp
                  all_goals first | exact ⟨_, rfl, fun _ _ _ h => h, rfl, hC2⟩ | exact ⟨_, rfl, rfl, hC2⟩ | exact ⟨fun _ _ _ h => h, rfl, hC2⟩ | exact ⟨rfl, hC2⟩ | exact ⟨_, rfl, hC2⟩ | exact hC2
                · simp at hq; subst hq
                  have g4 : act.tmps[4]?.getD undef = .pointer (some ⟨w.heap.size, 0, none⟩) := hI.kept 4 (by kernel_rfl)
                  have hC2 := hC.keep (i := 5) hI.len (by decide) (by decide)
                  clear hI hall hnot hcl hC hB
                  refine .inl ⟨wanted_none rfl, ?_⟩
                  unfold Oper.wp
                  go_simp
                  all_goals first | exact ⟨_, rfl, fun _ _ _ h => h, rfl, hC2⟩ | exact ⟨_, rfl, rfl, hC2⟩ | exact ⟨fun _ _ _ h => h, rfl, hC2⟩ | exact ⟨rfl, hC2⟩ | exact ⟨_, rfl, hC2⟩ | exact hC2
                · simp at hq; subst hq
                  have g53 : act.tmps[53]?.getD undef = .pointer (some ⟨w.heap.size, 1, none⟩) := hI.has 5 53 rfl (hall ⟨5, .data⟩ (by simp) rfl)
                  have hC2 := hC.keep (i := 6) hI.len (by decide) (by decide)
                  clear hI hall hnot hcl hC hB
                  refine .inl ⟨wanted_none rfl, ?_⟩
                  unfold Oper.wp
                  go_simp
                  all_goals first | exact ⟨_, rfl, fun _ _ _ h => h, rfl, hC2⟩ | exact ⟨_, rfl, rfl, hC2⟩ | exact ⟨fun _ _ _ h => h, rfl, hC2⟩ | exact ⟨rfl, hC2⟩ | exact ⟨_, rfl, hC2⟩ | exact hC2
                · simp at hq; subst hq
                  have g12 : act.tmps[12]?.getD undef = .int .i64 k := hI.kept 12 (by kernel_rfl)
                  have hC2 := hC.keep (i := 7) hI.len (by decide) (by decide)
                  clear hI hall hnot hcl hC hB
                  refine .inl ⟨wanted_none rfl, ?_⟩
                  unfold Oper.wp
                  go_simp
                  all_goals first | exact ⟨_, rfl, fun _ _ _ h => h, rfl, hC2⟩ | exact ⟨_, rfl, rfl, hC2⟩ | exact ⟨fun _ _ _ h => h, rfl, hC2⟩ | exact ⟨rfl, hC2⟩ | exact ⟨_, rfl, hC2⟩ | exact hC2
                · simp at hq; subst hq
                  have g54 : act.tmps[54]?.getD undef = .slice (some ⟨bl, ol, none⟩) l.length cl := hI.has 6 54 rfl (hall ⟨6, .data⟩ (by simp) rfl)
                  have g55 : act.tmps[55]?.getD undef = .int .i64 k := hI.has 7 55 rfl (hall ⟨7, .data⟩ (by simp) rfl)
                  have hC2 := hC.keep (i := 8) hI.len (by decide) (by decide)
                  clear hI hall hnot hcl hC hB
                  refine .inl ⟨wanted_none rfl, ?_⟩
                  unfold Oper.wp
                  go_simp
                  all_goals first | exact ⟨_, rfl, fun _ _ _ h => h, rfl, hC2⟩ | exact ⟨_, rfl, rfl, hC2⟩ | exact ⟨fun _ _ _ h => h, rfl, hC2⟩ | exact ⟨rfl, hC2⟩ | exact ⟨_, rfl, hC2⟩ | exact hC2
                · simp at hq; subst hq
                  have g56 : act.tmps[56]?.getD undef = .pointer (some ⟨bl, ol + k, none⟩) := hI.has 8 56 rfl (hall ⟨8, .data⟩ (by simp) rfl)
                  have hC2 := hC.keep (i := 9) hI.len (by decide) (by decide)
                  clear hI hall hnot hcl hC hB
                  refine .inl ⟨wanted_none rfl, ?_⟩
                  unfold Oper.wp
                  go_simp
                  all_goals first | exact ⟨_, rfl, fun _ _ _ h => h, rfl, hC2⟩ | exact ⟨_, rfl, rfl, hC2⟩ | exact ⟨fun _ _ _ h => h, rfl, hC2⟩ | exact ⟨rfl, hC2⟩ | exact ⟨_, rfl, hC2⟩ | exact hC2
                · simp at hq; subst hq
                  have g4 : act.tmps[4]?.getD undef = .pointer (some ⟨w.heap.size, 0, none⟩) := hI.kept 4 (by kernel_rfl)
                  have hC2 := hC.keep (i := 10) hI.len (by decide) (by decide)
                  clear hI hall hnot hcl hC hB
                  refine .inl ⟨wanted_none rfl, ?_⟩
                  unfold Oper.wp
                  go_simp
                  all_goals first | exact ⟨_, rfl, fun _ _ _ h => h, rfl, hC2⟩ | exact ⟨_, rfl, rfl, hC2⟩ | exact ⟨fun _ _ _ h => h, rfl, hC2⟩ | exact ⟨rfl, hC2⟩ | exact ⟨_, rfl, hC2⟩ | exact hC2
                · simp at hq; subst hq
                  have g58 : act.tmps[58]?.getD undef = .pointer (some ⟨w.heap.size, 2, none⟩) := hI.has 10 58 rfl (hall ⟨10, .data⟩ (by simp) rfl)
                  have hC2 := hC.keep (i := 11) hI.len (by decide) (by decide)
                  clear hI hall hnot hcl hC hB
                  refine .inl ⟨wanted_none rfl, ?_⟩
                  unfold Oper.wp
                  go_simp
                  all_goals first | exact ⟨_, rfl, fun _ _ _ h => h, rfl, hC2⟩ | exact ⟨_, rfl, rfl, hC2⟩ | exact ⟨fun _ _ _ h => h, rfl, hC2⟩ | exact ⟨rfl, hC2⟩ | exact ⟨_, rfl, hC2⟩ | exact hC2
                · simp at hq; subst hq
                  have g12 : act.tmps[12]?.getD undef = .int .i64 k := hI.kept 12 (by kernel_rfl)
                  have hC2 := hC.keep (i := 12) hI.len (by decide) (by decide)
                  clear hI hall hnot hcl hC hB
                  refine .inl ⟨wanted_none rfl, ?_⟩
                  unfold Oper.wp
                  go_simp
                  all_goals first | exact ⟨_, rfl, fun _ _ _ h => h, rfl, hC2⟩ | exact ⟨_, rfl, rfl, hC2⟩ | exact ⟨fun _ _ _ h => h, rfl, hC2⟩ | exact ⟨rfl, hC2⟩ | exact ⟨_, rfl, hC2⟩ | exact hC2
                · simp at hq; subst hq
                  have g59 : act.tmps[59]?.getD undef = .slice (some ⟨bd, od, none⟩) d.length cd := hI.has 11 59 rfl (hall ⟨11, .data⟩ (by simp) rfl)
                  have g60 : act.tmps[60]?.getD undef = .int .i64 k := hI.has 12 60 rfl (hall ⟨12, .data⟩ (by simp) rfl)
                  have hC2 := hC.keep (i := 13) hI.len (by decide) (by decide)
                  clear hI hall hnot hcl hC hB
                  refine .inl ⟨wanted_none rfl, ?_⟩
                  unfold Oper.wp
                  go_simp
                  all_goals first | exact ⟨_, rfl, fun _ _ _ h => h, rfl, hC2⟩ | exact ⟨_, rfl, rfl, hC2⟩ | exact ⟨fun _ _ _ h => h, rfl, hC2⟩ | exact ⟨rfl, hC2⟩ | exact ⟨_, rfl, hC2⟩ | exact hC2
                · simp at hq; subst hq
                  have g61 : act.tmps[61]?.getD undef = .pointer (some ⟨bd, od + k, none⟩) := hI.has 13 61 rfl (hall ⟨13, .data⟩ (by simp) rfl)
                  have hC2 := hC.keep (i := 14) hI.len (by decide) (by decide)
                  clear hI hall hnot hcl hC hB
                  refine .inl ⟨wanted_none rfl, ?_⟩
                  unfold Oper.wp
                  go_simp
                  all_goals first | exact ⟨_, rfl, fun _ _ _ h => h, rfl, hC2⟩ | exact ⟨_, rfl, rfl, hC2⟩ | exact ⟨fun _ _ _ h => h, rfl, hC2⟩ | exact ⟨rfl, hC2⟩ | exact ⟨_, rfl, hC2⟩ | exact hC2
                · simp at hq; subst hq
                  have g10 : act.tmps[10]?.getD undef = .pointer (some ⟨w2.heap.size, 0, none⟩) := hI.kept 10 (by kernel_rfl)
                  have g52 : act.tmps[52]?.getD undef = .float .f32 x := hI.has 4 52 rfl (hall ⟨4, .data⟩ (by simp) rfl)
                  have g57 : act.tmps[57]?.getD undef = .float .f32 y := hI.has 9 57 rfl (hall ⟨9, .data⟩ (by simp) rfl)
                  have g62 : act.tmps[62]?.getD undef = .float .f32 z := hI.has 14 62 rfl (hall ⟨14, .data⟩ (by simp) rfl)
                  have hlen := hI.len
                  have hC1 := hC.ahead hnot
                  clear hI hall hnot hcl hC hB
                  refine .inl ⟨wanted_none rfl, ?_⟩
                  unfold Oper.wp
                  go_simp
                  refine (s_l02Put _ _ _ x' y' z' _ _ _ _ w1 w3 hC1 HLN.out ((rfl : canon .f32 _ = _).trans HX1.out.symm) ((rfl : canon .f32 _ = _).trans HY1.out.symm) ((rfl : canon .f32 _ = _).trans HZ1.out.symm)).mono ?_
                  rintro e w4 ⟨rfl, hQ⟩
                  first | exact ⟨_, rfl, fun _ _ _ h => h, rfl, CF.call hQ hlen (by decide)⟩ | exact ⟨_, rfl, rfl, CF.call hQ hlen (by decide)⟩ | exact ⟨rfl, CF.call hQ hlen (by decide)⟩ | exact CF.call hQ hlen (by decide)
                · simp at hq
              case hend =>
                intro listed act w3 hI hall
                have hC := hI.cls
                have hB := hC.below
                obtain ⟨-, ⟨kx0, kx1, kx2⟩, -, -, -⟩ := L0.out.below hB
                have hca := HCA.out _ hB
                have hcl2 := HCL.out _ hB
                have hcd := HCD.out _ hB
                have hQ := (hI.cls).done (hall 15 (by decide))
                have g12 := hI.kept 12 (by kernel_rfl)
                conv at g12 => rhs; whnf
                have g0 := hI.kept 0 (by kernel_rfl)
                conv at g0 => rhs; whnf
                have g1 := hI.kept 1 (by kernel_rfl)
                conv at g1 => rhs; whnf
                have g2 := hI.kept 2 (by kernel_rfl)
                conv at g2 => rhs; whnf
                have g3 := hI.kept 3 (by kernel_rfl)
                conv at g3 => rhs; whnf
                have g4 := hI.kept 4 (by kernel_rfl)
                conv at g4 => rhs; whnf
                have g5 : act.tmps[5]?.getD undef = undef := hI.kept 5 (by kernel_rfl)
                have g6 : act.tmps[6]?.getD undef = undef := hI.kept 6 (by kernel_rfl)
                have g7 : act.tmps[7]?.getD undef = undef := hI.kept 7 (by kernel_rfl)
                have g8 := hI.kept 8 (by kernel_rfl)
                conv at g8 => rhs; whnf
                have g9 := hI.kept 9 (by kernel_rfl)
                conv at g9 => rhs; whnf
                have g10 := hI.kept 10 (by kernel_rfl)
                conv at g10 => rhs; whnf
                have g13 := hI.kept 13 (by kernel_rfl)
                conv at g13 => rhs; whnf
                have g14 := hI.kept 14 (by kernel_rfl)
                conv at g14 => rhs; whnf
                have g15 := hI.kept 15 (by kernel_rfl)
                conv at g15 => rhs; whnf
                have g16 := hI.kept 16 (by kernel_rfl)
                conv at g16 => rhs; whnf
                have g17 := hI.kept 17 (by kernel_rfl)
                conv at g17 => rhs; whnf
                have g18 := hI.kept 18 (by kernel_rfl)
                conv at g18 => rhs; whnf
                have g19 := hI.kept 19 (by kernel_rfl)
                conv at g19 => rhs; whnf
                have g20 := hI.kept 20 (by kernel_rfl)
                conv at g20 => rhs; whnf
                have g21 := hI.kept 21 (by kernel_rfl)
                conv at g21 => rhs; whnf
                have g22 := hI.kept 22 (by kernel_rfl)
                conv at g22 => rhs; whnf
                have g23 := hI.kept 23 (by kernel_rfl)
                conv at g23 => rhs; whnf
                have g25 := hI.kept 25 (by kernel_rfl)
                conv at g25 => rhs; whnf
                have g64 : act.tmps[64]?.getD undef = undef := hI.kept 64 (by kernel_rfl)
                have g65 : act.tmps[65]?.getD undef = undef := hI.kept 65 (by kernel_rfl)
                have g66 : act.tmps[66]?.getD undef = undef := hI.kept 66 (by kernel_rfl)
                have g67 : act.tmps[67]?.getD undef = undef := hI.kept 67 (by kernel_rfl)
                have g68 : act.tmps[68]?.getD undef = undef := hI.kept 68 (by kernel_rfl)
                have g69 : act.tmps[69]?.getD undef = undef := hI.kept 69 (by kernel_rfl)
                have g70 : act.tmps[70]?.getD undef = undef := hI.kept 70 (by kernel_rfl)
                have g71 : act.tmps[71]?.getD undef = undef := hI.kept 71 (by kernel_rfl)
                have g72 : act.tmps[72]?.getD undef = undef := hI.kept 72 (by kernel_rfl)
                have g73 : act.tmps[73]?.getD undef = undef := hI.kept 73 (by kernel_rfl)
                have g11 := hI.kept 11 (by kernel_rfl)
                conv at g11 => rhs; whnf
                have g24 : act.tmps[24]?.getD undef = undef := hI.kept 24 (by kernel_rfl)
                have hsz : act.tmps.size = 74 := hI.size.trans (by kernel_rfl)
                have hd := hI.defers
                clear hI hall
                obtain ⟨tt, dd⟩ := act
                simp only at g0 g1 g2 g3 g4 g5 g6 g7 g8 g9 g10 g11 g12 g13 g14 g15 g16 g17 g18 g19 g20 g21 g22 g23 g24 g25 g64 g65 g66 g67 g68 g69 g70 g71 g72 g73 hsz hd
                subst hd
                have hl : tt = #[tt[0]?.getD undef, tt[1]?.getD undef, tt[2]?.getD undef, tt[3]?.getD undef, tt[4]?.getD undef, tt[5]?.getD undef, tt[6]?.getD undef, tt[7]?.getD undef, tt[8]?.getD undef, tt[9]?.getD undef, tt[10]?.getD undef, tt[11]?.getD undef, tt[12]?.getD undef, tt[13]?.getD undef, tt[14]?.getD undef, tt[15]?.getD undef, tt[16]?.getD undef, tt[17]?.getD undef, tt[18]?.getD undef, tt[19]?.getD undef, tt[20]?.getD undef, tt[21]?.getD undef, tt[22]?.getD undef, tt[23]?.getD undef, tt[24]?.getD undef, tt[25]?.getD undef, tt[26]?.getD undef, tt[27]?.getD undef, tt[28]?.getD undef, tt[29]?.getD undef, tt[30]?.getD undef, tt[31]?.getD undef, tt[32]?.getD undef, tt[33]?.getD undef, tt[34]?.getD undef, tt[35]?.getD undef, tt[36]?.getD undef, tt[37]?.getD undef, tt[38]?.getD undef, tt[39]?.getD undef, tt[40]?.getD undef, tt[41]?.getD undef, tt[42]?.getD undef, tt[43]?.getD undef, tt[44]?.getD undef, tt[45]?.getD undef, tt[46]?.getD undef, tt[47]?.getD undef, tt[48]?.getD undef, tt[49]?.getD undef, tt[50]?.getD undef, tt[51]?.getD undef, tt[52]?.getD undef, tt[53]?.getD undef, tt[54]?.getD undef, tt[55]?.getD undef, tt[56]?.getD undef, tt[57]?.getD undef, tt[58]?.getD undef, tt[59]?.getD undef, tt[60]?.getD undef, tt[61]?.getD undef, tt[62]?.getD undef, tt[63]?.getD undef, tt[64]?.getD undef, tt[65]?.getD undef, tt[66]?.getD undef, tt[67]?.getD undef, tt[68]?.getD undef, tt[69]?.getD undef, tt[70]?.getD undef, tt[71]?.getD undef, tt[72]?.getD undef, tt[73]?.getD undef] := (arr_lit hsz).trans rfl
                rw [g0, g1, g2, g3, g4, g5, g6, g7, g8, g9, g10, g11, g12, g13, g14, g15, g16, g17, g18, g19, g20, g21, g22, g23, g24, g25, g64, g65, g66, g67, g68, g69, g70, g71, g72, g73] at hl
                clear g0 g1 g2 g3 g4 g5 g6 g7 g8 g9 g10 g11 g12 g13 g14 g15 g16 g17 g18 g19 g20 g21 g22 g23 g24 g25 g64 g65 g66 g67 g68 g69 g70 g71 g72 g73 hsz
                generalize tt[26]?.getD undef = y26 at hl
                generalize tt[27]?.getD undef = y27 at hl
                generalize tt[28]?.getD undef = y28 at hl
                generalize tt[29]?.getD undef = y29 at hl
                generalize tt[30]?.getD undef = y30 at hl
                generalize tt[31]?.getD undef = y31 at hl
                generalize tt[32]?.getD undef = y32 at hl
                generalize tt[33]?.getD undef = y33 at hl
                generalize tt[34]?.getD undef = y34 at hl
                generalize tt[35]?.getD undef = y35 at hl
                generalize tt[36]?.getD undef = y36 at hl
                generalize tt[37]?.getD undef = y37 at hl
                generalize tt[38]?.getD undef = y38 at hl
                generalize tt[39]?.getD undef = y39 at hl
                generalize tt[40]?.getD undef = y40 at hl
                generalize tt[41]?.getD undef = y41 at hl
                generalize tt[42]?.getD undef = y42 at hl
                generalize tt[43]?.getD undef = y43 at hl
                generalize tt[44]?.getD undef = y44 at hl
                generalize tt[45]?.getD undef = y45 at hl
                generalize tt[46]?.getD undef = y46 at hl
                generalize tt[47]?.getD undef = y47 at hl
                generalize tt[48]?.getD undef = y48 at hl
                generalize tt[49]?.getD undef = y49 at hl
                generalize tt[50]?.getD undef = y50 at hl
                generalize tt[51]?.getD undef = y51 at hl
                generalize tt[52]?.getD undef = y52 at hl
                generalize tt[53]?.getD undef = y53 at hl
                generalize tt[54]?.getD undef = y54 at hl
                generalize tt[55]?.getD undef = y55 at hl
                generalize tt[56]?.getD undef = y56 at hl
                generalize tt[57]?.getD undef = y57 at hl
                generalize tt[58]?.getD undef = y58 at hl
                generalize tt[59]?.getD undef = y59 at hl
                generalize tt[60]?.getD undef = y60 at hl
                generalize tt[61]?.getD undef = y61 at hl
                generalize tt[62]?.getD undef = y62 at hl
                generalize tt[63]?.getD undef = y63 at hl
                subst hl
                have HQ2 := Lib.hid hQ
                clear hQ
                go_wp2
                go_roundw
                case rel => exact ⟨k + 1, by omega, by rw [HPE.out, HP2.out], by go_num, Lib.hid (by rw [HT.out.1, HT.out.2.1, HT.out.2.2]; exact HQ2.out)⟩
                case measure => simp [intOf]; omega
            case false =>
              cases c1 : (FloatKind.f32.format.order q x == some .lt)
              case false =>
                have HP2 : Hid (PN = false) := Lib.hid (by rw [HPN.out, HC.out, c1]; rfl)
                have hcc : c = false := by rw [HC.out, c1]
                have HT := Lib.hid (show _ ∧ _ ∧ _ from ⟨HTX.out (.inr hcc), HTY.out (.inr hcc), HTZ.out (.inr hcc)⟩)
                clear hcc
                clear HTX HTY HTZ HUX HUY HUZ HPN HC
                go_wp2_with fail
                refine wp_region_inv6 (fun iq _ v => match iq with
                  | 0 => v = .pointer (some ⟨w.heap.size, 0, none⟩)
                  | 1 => v = .slice (some ⟨ba, oa, none⟩) a.length ca
                  | 2 => v = .int .i64 k
                  | 3 => v = .pointer (some ⟨ba, oa + k, none⟩)
                  | 4 => v = .float .f32 x
                  | 5 => v = .pointer (some ⟨w.heap.size, 1, none⟩)
                  | 6 => v = .slice (some ⟨bl, ol, none⟩) l.length cl
                  | 7 => v = .int .i64 k
                  | 8 => v = .pointer (some ⟨bl, ol + k, none⟩)
                  | 9 => v = .float .f32 y
                  | 10 => v = .pointer (some ⟨w.heap.size, 2, none⟩)
                  | 11 => v = .slice (some ⟨bd, od, none⟩) d.length cd
                  | 12 => v = .int .i64 k
                  | 13 => v = .pointer (some ⟨bd, od + k, none⟩)
                  | 14 => v = .float .f32 z
                  | 15 => v = .tuple #[]
                  | _ => False) (CF 15 w1 w2.heap.size X0 Y0 Z0 (X0 ++ [x']) (Y0 ++ [y']) (Z0 ++ [z'])) (by kernel_rfl) (by kernel_rfl) (CF.start (HQ.out.draws 1)) ?hop ?hend
                case hop =>
                  intro q o hq listed act w3 hI hnot hcl hall
                  have hC := hI.cls
                  have hB := hC.below
                  obtain ⟨-, ⟨kx0, kx1, kx2⟩, -, -, -⟩ := L0.out.below hB
                  have hca := HCA.out _ hB
                  have hcl2 := HCL.out _ hB
                  have hcd := HCD.out _ hB
                  rcases q with _ | _ | _ | _ | _ | _ | _ | _ | _ | _ | _ | _ | _ | _ | _ | _ | q
                  · simp at hq; subst hq
                    have g4 : act.tmps[4]?.getD undef = .pointer (some ⟨w.heap.size, 0, none⟩) := hI.kept 4 (by kernel_rfl)
                    have hC2 := hC.keep (i := 0) hI.len (by decide) (by decide)
                    clear hI hall hnot hcl hC hB
                    refine .inl ⟨wanted_none rfl, ?_⟩
                    unfold Oper.wp
                    go_simp
                    all_goals first | exact ⟨_, rfl, fun _ _ _ h => h, rfl, hC2⟩ | exact ⟨_, rfl, rfl, hC2⟩ | exact ⟨fun _ _ _ h => h, rfl, hC2⟩ | exact ⟨rfl, hC2⟩ | exact ⟨_, rfl, hC2⟩ | exact hC2
                  · simp at hq; subst hq
                    have g48 : act.tmps[48]?.getD undef = .pointer (some ⟨w.heap.size, 0, none⟩) := hI.has 0 48 rfl (hall ⟨0, .data⟩ (by simp) rfl)
                    have hC2 := hC.keep (i := 1) hI.len (by decide) (by decide)
                    clear hI hall hnot hcl hC hB
                    refine .inl ⟨wanted_none rfl, ?_⟩
                    unfold Oper.wp
                    go_simp
                    all_goals first | exact ⟨_, rfl, fun _ _ _ h => h, rfl, hC2⟩ | exact ⟨_, rfl, rfl, hC2⟩ | exact ⟨fun _ _ _ h => h, rfl, hC2⟩ | exact ⟨rfl, hC2⟩ | exact ⟨_, rfl, hC2⟩ | exact hC2
                  · simp at hq; subst hq
                    have g12 : act.tmps[12]?.getD undef = .int .i64 k := hI.kept 12 (by kernel_rfl)
                    have hC2 := hC.keep (i := 2) hI.len (by decide) (by decide)
                    clear hI hall hnot hcl hC hB
                    refine .inl ⟨wanted_none rfl, ?_⟩
                    unfold Oper.wp
                    go_simp
                    all_goals first | exact ⟨_, rfl, fun _ _ _ h => h, rfl, hC2⟩ | exact ⟨_, rfl, rfl, hC2⟩ | exact ⟨fun _ _ _ h => h, rfl, hC2⟩ | exact ⟨rfl, hC2⟩ | exact ⟨_, rfl, hC2⟩ | exact hC2
                  · simp at hq; subst hq
                    have g49 : act.tmps[49]?.getD undef = .slice (some ⟨ba, oa, none⟩) a.length ca := hI.has 1 49 rfl (hall ⟨1, .data⟩ (by simp) rfl)
                    have g50 : act.tmps[50]?.getD undef = .int .i64 k := hI.has 2 50 rfl (hall ⟨2, .data⟩ (by simp) rfl)
                    have hC2 := hC.keep (i := 3) hI.len (by decide) (by decide)
                    clear hI hall hnot hcl hC hB
                    refine .inl ⟨wanted_none rfl, ?_⟩
                    unfold Oper.wp
                    go_simp
                    all_goals first | exact ⟨_, rfl, fun _ _ _ h => h, rfl, hC2⟩ | exact ⟨_, rfl, rfl, hC2⟩ | exact ⟨fun _ _ _ h => h, rfl, hC2⟩ | exact ⟨rfl, hC2⟩ | exact ⟨_, rfl, hC2⟩ | exact hC2
                  · simp at hq; subst hq
                    have g51 : act.tmps[51]?.getD undef = .pointer (some ⟨ba, oa + k, none⟩) := hI.has 3 51 rfl (hall ⟨3, .data⟩ (by simp) rfl)
                    have hC2 := hC.keep (i := 4) hI.len (by decide) (by decide)
                    clear hI hall hnot hcl hC hB
                    refine .inl ⟨wanted_none rfl, ?_⟩
                    unfold Oper.wp
                    go_simp
                    all_goals first | exact ⟨_, rfl, fun _ _ _ h => h, rfl, hC2⟩ | exact ⟨_, rfl, rfl, hC2⟩ | exact ⟨fun _ _ _ h => h, rfl, hC2⟩ | exact ⟨rfl, hC2⟩ | exact ⟨_, rfl, hC2⟩ | exact hC2
                  · simp at hq; subst hq
                    have g4 : act.tmps[4]?.getD undef = .pointer (some ⟨w.heap.size, 0, none⟩) := hI.kept 4 (by kernel_rfl)
                    have hC2 := hC.keep (i := 5) hI.len (by decide) (by decide)
                    clear hI hall hnot hcl hC hB
                    refine .inl ⟨wanted_none rfl, ?_⟩
                    unfold Oper.wp
                    go_simp
                    all_goals first | exact ⟨_, rfl, fun _ _ _ h => h, rfl, hC2⟩ | exact ⟨_, rfl, rfl, hC2⟩ | exact ⟨fun _ _ _ h => h, rfl, hC2⟩ | exact ⟨rfl, hC2⟩ | exact ⟨_, rfl, hC2⟩ | exact hC2
                  · simp at hq; subst hq
                    have g53 : act.tmps[53]?.getD undef = .pointer (some ⟨w.heap.size, 1, none⟩) := hI.has 5 53 rfl (hall ⟨5, .data⟩ (by simp) rfl)
                    have hC2 := hC.keep (i := 6) hI.len (by decide) (by decide)
                    clear hI hall hnot hcl hC hB
                    refine .inl ⟨wanted_none rfl, ?_⟩
                    unfold Oper.wp
                    go_simp
                    all_goals first | exact ⟨_, rfl, fun _ _ _ h => h, rfl, hC2⟩ | exact ⟨_, rfl, rfl, hC2⟩ | exact ⟨fun _ _ _ h => h, rfl, hC2⟩ | exact ⟨rfl, hC2⟩ | exact ⟨_, rfl, hC2⟩ | exact hC2
                  · simp at hq; subst hq
                    have g12 : act.tmps[12]?.getD undef = .int .i64 k := hI.kept 12 (by kernel_rfl)
                    have hC2 := hC.keep (i := 7) hI.len (by decide) (by decide)
                    clear hI hall hnot hcl hC hB
                    refine .inl ⟨wanted_none rfl, ?_⟩
                    unfold Oper.wp
                    go_simp
                    all_goals first | exact ⟨_, rfl, fun _ _ _ h => h, rfl, hC2⟩ | exact ⟨_, rfl, rfl, hC2⟩ | exact ⟨fun _ _ _ h => h, rfl, hC2⟩ | exact ⟨rfl, hC2⟩ | exact ⟨_, rfl, hC2⟩ | exact hC2
                  · simp at hq; subst hq
                    have g54 : act.tmps[54]?.getD undef = .slice (some ⟨bl, ol, none⟩) l.length cl := hI.has 6 54 rfl (hall ⟨6, .data⟩ (by simp) rfl)
                    have g55 : act.tmps[55]?.getD undef = .int .i64 k := hI.has 7 55 rfl (hall ⟨7, .data⟩ (by simp) rfl)
                    have hC2 := hC.keep (i := 8) hI.len (by decide) (by decide)
                    clear hI hall hnot hcl hC hB
                    refine .inl ⟨wanted_none rfl, ?_⟩
                    unfold Oper.wp
                    go_simp
                    all_goals first | exact ⟨_, rfl, fun _ _ _ h => h, rfl, hC2⟩ | exact ⟨_, rfl, rfl, hC2⟩ | exact ⟨fun _ _ _ h => h, rfl, hC2⟩ | exact ⟨rfl, hC2⟩ | exact ⟨_, rfl, hC2⟩ | exact hC2
                  · simp at hq; subst hq
                    have g56 : act.tmps[56]?.getD undef = .pointer (some ⟨bl, ol + k, none⟩) := hI.has 8 56 rfl (hall ⟨8, .data⟩ (by simp) rfl)
                    have hC2 := hC.keep (i := 9) hI.len (by decide) (by decide)
                    clear hI hall hnot hcl hC hB
                    refine .inl ⟨wanted_none rfl, ?_⟩
                    unfold Oper.wp
                    go_simp
                    all_goals first | exact ⟨_, rfl, fun _ _ _ h => h, rfl, hC2⟩ | exact ⟨_, rfl, rfl, hC2⟩ | exact ⟨fun _ _ _ h => h, rfl, hC2⟩ | exact ⟨rfl, hC2⟩ | exact ⟨_, rfl, hC2⟩ | exact hC2
                  · simp at hq; subst hq
                    have g4 : act.tmps[4]?.getD undef = .pointer (some ⟨w.heap.size, 0, none⟩) := hI.kept 4 (by kernel_rfl)
                    have hC2 := hC.keep (i := 10) hI.len (by decide) (by decide)
                    clear hI hall hnot hcl hC hB
                    refine .inl ⟨wanted_none rfl, ?_⟩
                    unfold Oper.wp
                    go_simp
                    all_goals first | exact ⟨_, rfl, fun _ _ _ h => h, rfl, hC2⟩ | exact ⟨_, rfl, rfl, hC2⟩ | exact ⟨fun _ _ _ h => h, rfl, hC2⟩ | exact ⟨rfl, hC2⟩ | exact ⟨_, rfl, hC2⟩ | exact hC2
                  · simp at hq; subst hq
                    have g58 : act.tmps[58]?.getD undef = .pointer (some ⟨w.heap.size, 2, none⟩) := hI.has 10 58 rfl (hall ⟨10, .data⟩ (by simp) rfl)
                    have hC2 := hC.keep (i := 11) hI.len (by decide) (by decide)
                    clear hI hall hnot hcl hC hB
                    refine .inl ⟨wanted_none rfl, ?_⟩
                    unfold Oper.wp
                    go_simp
                    all_goals first | exact ⟨_, rfl, fun _ _ _ h => h, rfl, hC2⟩ | exact ⟨_, rfl, rfl, hC2⟩ | exact ⟨fun _ _ _ h => h, rfl, hC2⟩ | exact ⟨rfl, hC2⟩ | exact ⟨_, rfl, hC2⟩ | exact hC2
                  · simp at hq; subst hq
                    have g12 : act.tmps[12]?.getD undef = .int .i64 k := hI.kept 12 (by kernel_rfl)
                    have hC2 := hC.keep (i := 12) hI.len (by decide) (by decide)
                    clear hI hall hnot hcl hC hB
                    refine .inl ⟨wanted_none rfl, ?_⟩
                    unfold Oper.wp
                    go_simp
                    all_goals first | exact ⟨_, rfl, fun _ _ _ h => h, rfl, hC2⟩ | exact ⟨_, rfl, rfl, hC2⟩ | exact ⟨fun _ _ _ h => h, rfl, hC2⟩ | exact ⟨rfl, hC2⟩ | exact ⟨_, rfl, hC2⟩ | exact hC2
                  · simp at hq; subst hq
                    have g59 : act.tmps[59]?.getD undef = .slice (some ⟨bd, od, none⟩) d.length cd := hI.has 11 59 rfl (hall ⟨11, .data⟩ (by simp) rfl)
                    have g60 : act.tmps[60]?.getD undef = .int .i64 k := hI.has 12 60 rfl (hall ⟨12, .data⟩ (by simp) rfl)
                    have hC2 := hC.keep (i := 13) hI.len (by decide) (by decide)
                    clear hI hall hnot hcl hC hB
                    refine .inl ⟨wanted_none rfl, ?_⟩
                    unfold Oper.wp
                    go_simp
                    all_goals first | exact ⟨_, rfl, fun _ _ _ h => h, rfl, hC2⟩ | exact ⟨_, rfl, rfl, hC2⟩ | exact ⟨fun _ _ _ h => h, rfl, hC2⟩ | exact ⟨rfl, hC2⟩ | exact ⟨_, rfl, hC2⟩ | exact hC2
                  · simp at hq; subst hq
                    have g61 : act.tmps[61]?.getD undef = .pointer (some ⟨bd, od + k, none⟩) := hI.has 13 61 rfl (hall ⟨13, .data⟩ (by simp) rfl)
                    have hC2 := hC.keep (i := 14) hI.len (by decide) (by decide)
                    clear hI hall hnot hcl hC hB
                    refine .inl ⟨wanted_none rfl, ?_⟩
                    unfold Oper.wp
                    go_simp
                    all_goals first | exact ⟨_, rfl, fun _ _ _ h => h, rfl, hC2⟩ | exact ⟨_, rfl, rfl, hC2⟩ | exact ⟨fun _ _ _ h => h, rfl, hC2⟩ | exact ⟨rfl, hC2⟩ | exact ⟨_, rfl, hC2⟩ | exact hC2
                  · simp at hq; subst hq
                    have g10 : act.tmps[10]?.getD undef = .pointer (some ⟨w2.heap.size, 0, none⟩) := hI.kept 10 (by kernel_rfl)
                    have g52 : act.tmps[52]?.getD undef = .float .f32 x := hI.has 4 52 rfl (hall ⟨4, .data⟩ (by simp) rfl)
                    have g57 : act.tmps[57]?.getD undef = .float .f32 y := hI.has 9 57 rfl (hall ⟨9, .data⟩ (by simp) rfl)
                    have g62 : act.tmps[62]?.getD undef = .float .f32 z := hI.has 14 62 rfl (hall ⟨14, .data⟩ (by simp) rfl)
                    have hlen := hI.len
                    have hC1 := hC.ahead hnot
                    clear hI hall hnot hcl hC hB
                    refine .inl ⟨wanted_none rfl, ?_⟩
                    unfold Oper.wp
                    go_simp
                    refine (s_l02Put _ _ _ x' y' z' _ _ _ _ w1 w3 hC1 HLN.out ((rfl : canon .f32 _ = _).trans HX1.out.symm) ((rfl : canon .f32 _ = _).trans HY1.out.symm) ((rfl : canon .f32 _ = _).trans HZ1.out.symm)).mono ?_
                    rintro e w4 ⟨rfl, hQ⟩
                    first | exact ⟨_, rfl, fun _ _ _ h => h, rfl, CF.call hQ hlen (by decide)⟩ | exact ⟨_, rfl, rfl, CF.call hQ hlen (by decide)⟩ | exact ⟨rfl, CF.call hQ hlen (by decide)⟩ | exact CF.call hQ hlen (by decide)
                  · simp at hq
                case hend =>
                  intro listed act w3 hI hall
                  have hC := hI.cls
                  have hB := hC.below
                  obtain ⟨-, ⟨kx0, kx1, kx2⟩, -, -, -⟩ := L0.out.below hB
                  have hca := HCA.out _ hB
                  have hcl2 := HCL.out _ hB
                  have hcd := HCD.out _ hB
                  have hQ := (hI.cls).done (hall 15 (by decide))
                  have g12 := hI.kept 12 (by kernel_rfl)
                  conv at g12 => rhs; whnf
                  have g0 := hI.kept 0 (by kernel_rfl)
                  conv at g0 => rhs; whnf
                  have g1 := hI.kept 1 (by kernel_rfl)
                  conv at g1 => rhs; whnf
                  have g2 := hI.kept 2 (by kernel_rfl)
                  conv at g2 => rhs; whnf
                  have g3 := hI.kept 3 (by kernel_rfl)
                  conv at g3 => rhs; whnf
                  have g4 := hI.kept 4 (by kernel_rfl)
                  conv at g4 => rhs; whnf
                  have g5 : act.tmps[5]?.getD undef = undef := hI.kept 5 (by kernel_rfl)
                  have g6 : act.tmps[6]?.getD undef = undef := hI.kept 6 (by kernel_rfl)
                  have g7 : act.tmps[7]?.getD undef = undef := hI.kept 7 (by kernel_rfl)
                  have g8 := hI.kept 8 (by kernel_rfl)
                  conv at g8 => rhs; whnf
                  have g9 := hI.kept 9 (by kernel_rfl)
                  conv at g9 => rhs; whnf
                  have g10 := hI.kept 10 (by kernel_rfl)
                  conv at g10 => rhs; whnf
                  have g13 := hI.kept 13 (by kernel_rfl)
                  conv at g13 => rhs; whnf
                  have g14 := hI.kept 14 (by kernel_rfl)
                  conv at g14 => rhs; whnf
                  have g15 := hI.kept 15 (by kernel_rfl)
                  conv at g15 => rhs; whnf
                  have g16 := hI.kept 16 (by kernel_rfl)
                  conv at g16 => rhs; whnf
                  have g17 := hI.kept 17 (by kernel_rfl)
                  conv at g17 => rhs; whnf
                  have g18 := hI.kept 18 (by kernel_rfl)
                  conv at g18 => rhs; whnf
                  have g19 := hI.kept 19 (by kernel_rfl)
                  conv at g19 => rhs; whnf
                  have g20 := hI.kept 20 (by kernel_rfl)
                  conv at g20 => rhs; whnf
                  have g21 := hI.kept 21 (by kernel_rfl)
                  conv at g21 => rhs; whnf
                  have g22 := hI.kept 22 (by kernel_rfl)
                  conv at g22 => rhs; whnf
                  have g23 := hI.kept 23 (by kernel_rfl)
                  conv at g23 => rhs; whnf
                  have g25 := hI.kept 25 (by kernel_rfl)
                  conv at g25 => rhs; whnf
                  have g64 : act.tmps[64]?.getD undef = undef := hI.kept 64 (by kernel_rfl)
                  have g65 : act.tmps[65]?.getD undef = undef := hI.kept 65 (by kernel_rfl)
                  have g66 : act.tmps[66]?.getD undef = undef := hI.kept 66 (by kernel_rfl)
                  have g67 : act.tmps[67]?.getD undef = undef := hI.kept 67 (by kernel_rfl)
                  have g68 : act.tmps[68]?.getD undef = undef := hI.kept 68 (by kernel_rfl)
                  have g69 : act.tmps[69]?.getD undef = undef := hI.kept 69 (by kernel_rfl)
                  have g70 : act.tmps[70]?.getD undef = undef := hI.kept 70 (by kernel_rfl)
                  have g71 : act.tmps[71]?.getD undef = undef := hI.kept 71 (by kernel_rfl)
                  have g72 : act.tmps[72]?.getD undef = undef := hI.kept 72 (by kernel_rfl)
                  have g73 : act.tmps[73]?.getD undef = undef := hI.kept 73 (by kernel_rfl)
                  have g11 := hI.kept 11 (by kernel_rfl)
                  conv at g11 => rhs; whnf
                  have g24 : act.tmps[24]?.getD undef = undef := hI.kept 24 (by kernel_rfl)
                  have hsz : act.tmps.size = 74 := hI.size.trans (by kernel_rfl)
                  have hd := hI.defers
                  clear hI hall
                  obtain ⟨tt, dd⟩ := act
                  simp only at g0 g1 g2 g3 g4 g5 g6 g7 g8 g9 g10 g11 g12 g13 g14 g15 g16 g17 g18 g19 g20 g21 g22 g23 g24 g25 g64 g65 g66 g67 g68 g69 g70 g71 g72 g73 hsz hd
                  subst hd
                  have hl : tt = #[tt[0]?.getD undef, tt[1]?.getD undef, tt[2]?.getD undef, tt[3]?.getD undef, tt[4]?.getD undef, tt[5]?.getD undef, tt[6]?.getD undef, tt[7]?.getD undef, tt[8]?.getD undef, tt[9]?.getD undef, tt[10]?.getD undef, tt[11]?.getD undef, tt[12]?.getD undef, tt[13]?.getD undef, tt[14]?.getD undef, tt[15]?.getD undef, tt[16]?.getD undef, tt[17]?.getD undef, tt[18]?.getD undef, tt[19]?.getD undef, tt[20]?.getD undef, tt[21]?.getD undef, tt[22]?.getD undef, tt[23]?.getD undef, tt[24]?.getD undef, tt[25]?.getD undef, tt[26]?.getD undef, tt[27]?.getD undef, tt[28]?.getD undef, tt[29]?.getD undef, tt[30]?.getD undef, tt[31]?.getD undef, tt[32]?.getD undef, tt[33]?.getD undef, tt[34]?.getD undef, tt[35]?.getD undef, tt[36]?.getD undef, tt[37]?.getD undef, tt[38]?.getD undef, tt[39]?.getD undef, tt[40]?.getD undef, tt[41]?.getD undef, tt[42]?.getD undef, tt[43]?.getD undef, tt[44]?.getD undef, tt[45]?.getD undef, tt[46]?.getD undef, tt[47]?.getD undef, tt[48]?.getD undef, tt[49]?.getD undef, tt[50]?.getD undef, tt[51]?.getD undef, tt[52]?.getD undef, tt[53]?.getD undef, tt[54]?.getD undef, tt[55]?.getD undef, tt[56]?.getD undef, tt[57]?.getD undef, tt[58]?.getD undef, tt[59]?.getD undef, tt[60]?.getD undef, tt[61]?.getD undef, tt[62]?.getD undef, tt[63]?.getD undef, tt[64]?.getD undef, tt[65]?.getD undef, tt[66]?.getD undef, tt[67]?.getD undef, tt[68]?.getD undef, tt[69]?.getD undef, tt[70]?.getD undef, tt[71]?.getD undef, tt[72]?.getD undef, tt[73]?.getD undef] := (arr_lit hsz).trans rfl
                  rw [g0, g1, g2, g3, g4, g5, g6, g7, g8, g9, g10, g11, g12, g13, g14, g15, g16, g17, g18, g19, g20, g21, g22, g23, g24, g25, g64, g65, g66, g67, g68, g69, g70, g71, g72, g73] at hl
                  clear g0 g1 g2 g3 g4 g5 g6 g7 g8 g9 g10 g11 g12 g13 g14 g15 g16 g17 g18 g19 g20 g21 g22 g23 g24 g25 g64 g65 g66 g67 g68 g69 g70 g71 g72 g73 hsz
                  generalize tt[26]?.getD undef = y26 at hl
                  generalize tt[27]?.getD undef = y27 at hl
                  generalize tt[28]?.getD undef = y28 at hl
                  generalize tt[29]?.getD undef = y29 at hl
                  generalize tt[30]?.getD undef = y30 at hl
                  generalize tt[31]?.getD undef = y31 at hl
                  generalize tt[32]?.getD undef = y32 at hl
                  generalize tt[33]?.getD undef = y33 at hl
                  generalize tt[34]?.getD undef = y34 at hl
                  generalize tt[35]?.getD undef = y35 at hl
                  generalize tt[36]?.getD undef = y36 at hl
                  generalize tt[37]?.getD undef = y37 at hl
                  generalize tt[38]?.getD undef = y38 at hl
                  generalize tt[39]?.getD undef = y39 at hl
                  generalize tt[40]?.getD undef = y40 at hl
                  generalize tt[41]?.getD undef = y41 at hl
                  generalize tt[42]?.getD undef = y42 at hl
                  generalize tt[43]?.getD undef = y43 at hl
                  generalize tt[44]?.getD undef = y44 at hl
                  generalize tt[45]?.getD undef = y45 at hl
                  generalize tt[46]?.getD undef = y46 at hl
                  generalize tt[47]?.getD undef = y47 at hl
                  generalize tt[48]?.getD undef = y48 at hl
                  generalize tt[49]?.getD undef = y49 at hl
                  generalize tt[50]?.getD undef = y50 at hl
                  generalize tt[51]?.getD undef = y51 at hl
                  generalize tt[52]?.getD undef = y52 at hl
                  generalize tt[53]?.getD undef = y53 at hl
                  generalize tt[54]?.getD undef = y54 at hl
                  generalize tt[55]?.getD undef = y55 at hl
                  generalize tt[56]?.getD undef = y56 at hl
                  generalize tt[57]?.getD undef = y57 at hl
                  generalize tt[58]?.getD undef = y58 at hl
                  generalize tt[59]?.getD undef = y59 at hl
                  generalize tt[60]?.getD undef = y60 at hl
                  generalize tt[61]?.getD undef = y61 at hl
                  generalize tt[62]?.getD undef = y62 at hl
                  generalize tt[63]?.getD undef = y63 at hl
                  subst hl
                  have HQ2 := Lib.hid hQ
                  clear hQ
                  go_wp2
                  go_roundw
                  case rel => exact ⟨k + 1, by omega, by rw [HPE.out, HP2.out], by go_num, Lib.hid (by rw [HT.out.1, HT.out.2.1, HT.out.2.2]; exact HQ2.out)⟩
                  case measure => simp [intOf]; omega
              case true =>
                have HP2 : Hid (PN = true) := Lib.hid (by rw [HPN.out, HC.out, c1]; rfl)
                have hcc : c = true := by rw [HC.out, c1]
                have HT := Lib.hid (show _ ∧ _ ∧ _ from ⟨HUX.out rfl hcc, HUY.out rfl hcc, HUZ.out rfl hcc⟩)
                clear hcc
                clear HTX HTY HTZ HUX HUY HUZ HPN HC
                go_wp2_with fail
                refine (s_l02Put q u v q u v w2.heap.size X0 Y0 Z0 w1 _ HQ.out HLN.out rfl rfl rfl).mono ?_
                rintro e w5 ⟨rfl, hq5⟩
                have HQb := Lib.hid hq5
                have HLN1 : Hid ((X0 ++ [q]).length ≤ 1048576 ∧ (Y0 ++ [u]).length ≤ 1048576 ∧ (Z0 ++ [v]).length ≤ 1048576) := Lib.hid (by have h1 := HLM.out; simp only [List.length_append, List.length_singleton]; omega)
                obtain ⟨-, ⟨k0, k1, k2⟩, -, -, -⟩ := L0.out.below HQb.out.below
                clear hq5 HQ HLN HLM hca
                generalize X0 ++ [q] = X1 at HQb HLN1 HT
                generalize Y0 ++ [u] = Y1 at HQb HLN1 HT
                generalize Z0 ++ [v] = Z1' at HQb HLN1 HT
                go_wp2_with fail
                refine wp_region_inv6 (fun iq _ v => match iq with
                  | 0 => v = .pointer (some ⟨w.heap.size, 0, none⟩)
                  | 1 => v = .slice (some ⟨ba, oa, none⟩) a.length ca
                  | 2 => v = .int .i64 k
                  | 3 => v = .pointer (some ⟨ba, oa + k, none⟩)
                  | 4 => v = .float .f32 x
                  | 5 => v = .pointer (some ⟨w.heap.size, 1, none⟩)
                  | 6 => v = .slice (some ⟨bl, ol, none⟩) l.length cl
                  | 7 => v = .int .i64 k
                  | 8 => v = .pointer (some ⟨bl, ol + k, none⟩)
                  | 9 => v = .float .f32 y
                  | 10 => v = .pointer (some ⟨w.heap.size, 2, none⟩)
                  | 11 => v = .slice (some ⟨bd, od, none⟩) d.length cd
                  | 12 => v = .int .i64 k
                  | 13 => v = .pointer (some ⟨bd, od + k, none⟩)
                  | 14 => v = .float .f32 z
                  | 15 => v = .tuple #[]
                  | _ => False) (CF 15 w1 w2.heap.size X1 Y1 Z1' (X1 ++ [x']) (Y1 ++ [y']) (Z1' ++ [z'])) (by kernel_rfl) (by kernel_rfl) (CF.start (HQb.out.draws 1)) ?hop ?hend
                case hop =>
                  intro q o hq listed act w3 hI hnot hcl hall
                  have hC := hI.cls
                  have hB := hC.below
                  obtain ⟨-, ⟨kx0, kx1, kx2⟩, -, -, -⟩ := L0.out.below hB
                  have hca := HCA.out _ hB
                  have hcl2 := HCL.out _ hB
                  have hcd := HCD.out _ hB
                  rcases q with _ | _ | _ | _ | _ | _ | _ | _ | _ | _ | _ | _ | _ | _ | _ | _ | q
                  · simp at hq; subst hq
                    have g4 : act.tmps[4]?.getD undef = .pointer (some ⟨w.heap.size, 0, none⟩) := hI.kept 4 (by kernel_rfl)
                    have hC2 := hC.keep (i := 0) hI.len (by decide) (by decide)
                    clear hI hall hnot hcl hC hB
                    refine .inl ⟨wanted_none rfl, ?_⟩
                    unfold Oper.wp
                    go_simp
                    all_goals first | exact ⟨_, rfl, fun _ _ _ h => h, rfl, hC2⟩ | exact ⟨_, rfl, rfl, hC2⟩ | exact ⟨fun _ _ _ h => h, rfl, hC2⟩ | exact ⟨rfl, hC2⟩ | exact ⟨_, rfl, hC2⟩ | exact hC2
                  · simp at hq; subst hq
                    have g48 : act.tmps[48]?.getD undef = .pointer (some ⟨w.heap.size, 0, none⟩) := hI.has 0 48 rfl (hall ⟨0, .data⟩ (by simp) rfl)
                    have hC2 := hC.keep (i := 1) hI.len (by decide) (by decide)
                    clear hI hall hnot hcl hC hB
                    refine .inl ⟨wanted_none rfl, ?_⟩
                    unfold Oper.wp
                    go_simp
                    all_goals first | exact ⟨_, rfl, fun _ _ _ h => h, rfl, hC2⟩ | exact ⟨_, rfl, rfl, hC2⟩ | exact ⟨fun _ _ _ h => h, rfl, hC2⟩ | exact ⟨rfl, hC2⟩ | exact ⟨_, rfl, hC2⟩ | exact hC2
                  · simp at hq; subst hq
                    have g12 : act.tmps[12]?.getD undef = .int .i64 k := hI.kept 12 (by kernel_rfl)
                    have hC2 := hC.keep (i := 2) hI.len (by decide) (by decide)
                    clear hI hall hnot hcl hC hB
                    refine .inl ⟨wanted_none rfl, ?_⟩
                    unfold Oper.wp
                    go_simp
                    all_goals first | exact ⟨_, rfl, fun _ _ _ h => h, rfl, hC2⟩ | exact ⟨_, rfl, rfl, hC2⟩ | exact ⟨fun _ _ _ h => h, rfl, hC2⟩ | exact ⟨rfl, hC2⟩ | exact ⟨_, rfl, hC2⟩ | exact hC2
                  · simp at hq; subst hq
                    have g49 : act.tmps[49]?.getD undef = .slice (some ⟨ba, oa, none⟩) a.length ca := hI.has 1 49 rfl (hall ⟨1, .data⟩ (by simp) rfl)
                    have g50 : act.tmps[50]?.getD undef = .int .i64 k := hI.has 2 50 rfl (hall ⟨2, .data⟩ (by simp) rfl)
                    have hC2 := hC.keep (i := 3) hI.len (by decide) (by decide)
                    clear hI hall hnot hcl hC hB
                    refine .inl ⟨wanted_none rfl, ?_⟩
                    unfold Oper.wp
                    go_simp
                    all_goals first | exact ⟨_, rfl, fun _ _ _ h => h, rfl, hC2⟩ | exact ⟨_, rfl, rfl, hC2⟩ | exact ⟨fun _ _ _ h => h, rfl, hC2⟩ | exact ⟨rfl, hC2⟩ | exact ⟨_, rfl, hC2⟩ | exact hC2
                  · simp at hq; subst hq
                    have g51 : act.tmps[51]?.getD undef = .pointer (some ⟨ba, oa + k, none⟩) := hI.has 3 51 rfl (hall ⟨3, .data⟩ (by simp) rfl)
                    have hC2 := hC.keep (i := 4) hI.len (by decide) (by decide)
                    clear hI hall hnot hcl hC hB
                    refine .inl ⟨wanted_none rfl, ?_⟩
                    unfold Oper.wp
                    go_simp
                    all_goals first | exact ⟨_, rfl, fun _ _ _ h => h, rfl, hC2⟩ | exact ⟨_, rfl, rfl, hC2⟩ | exact ⟨fun _ _ _ h => h, rfl, hC2⟩ | exact ⟨rfl, hC2⟩ | exact ⟨_, rfl, hC2⟩ | exact hC2
                  · simp at hq; subst hq
                    have g4 : act.tmps[4]?.getD undef = .pointer (some ⟨w.heap.size, 0, none⟩) := hI.kept 4 (by kernel_rfl)
                    have hC2 := hC.keep (i := 5) hI.len (by decide) (by decide)
                    clear hI hall hnot hcl hC hB
                    refine .inl ⟨wanted_none rfl, ?_⟩
                    unfold Oper.wp
                    go_simp
                    all_goals first | exact ⟨_, rfl, fun _ _ _ h => h, rfl, hC2⟩ | exact ⟨_, rfl, rfl, hC2⟩ | exact ⟨fun _ _ _ h => h, rfl, hC2⟩ | exact ⟨rfl, hC2⟩ | exact ⟨_, rfl, hC2⟩ | exact hC2
                  · simp at hq; subst hq
                    have g53 : act.tmps[53]?.getD undef = .pointer (some ⟨w.heap.size, 1, none⟩) := hI.has 5 53 rfl (hall ⟨5, .data⟩ (by simp) rfl)
                    have hC2 := hC.keep (i := 6) hI.len (by decide) (by decide)
                    clear hI hall hnot hcl hC hB
                    refine .inl ⟨wanted_none rfl, ?_⟩
                    unfold Oper.wp
                    go_simp
                    all_goals first | exact ⟨_, rfl, fun _ _ _ h => h, rfl, hC2⟩ | exact ⟨_, rfl, rfl, hC2⟩ | exact ⟨fun _ _ _ h => h, rfl, hC2⟩ | exact ⟨rfl, hC2⟩ | exact ⟨_, rfl, hC2⟩ | exact hC2
                  · simp at hq; subst hq
                    have g12 : act.tmps[12]?.getD undef = .int .i64 k := hI.kept 12 (by kernel_rfl)
                    have hC2 := hC.keep (i := 7) hI.len (by decide) (by decide)
                    clear hI hall hnot hcl hC hB
                    refine .inl ⟨wanted_none rfl, ?_⟩
                    unfold Oper.wp
                    go_simp
                    all_goals first | exact ⟨_, rfl, fun _ _ _ h => h, rfl, hC2⟩ | exact ⟨_, rfl, rfl, hC2⟩ | exact ⟨fun _ _ _ h => h, rfl, hC2⟩ | exact ⟨rfl, hC2⟩ | exact ⟨_, rfl, hC2⟩ | exact hC2
                  · simp at hq; subst hq
                    have g54 : act.tmps[54]?.getD undef = .slice (some ⟨bl, ol, none⟩) l.length cl := hI.has 6 54 rfl (hall ⟨6, .data⟩ (by simp) rfl)
                    have g55 : act.tmps[55]?.getD undef = .int .i64 k := hI.has 7 55 rfl (hall ⟨7, .data⟩ (by simp) rfl)
                    have hC2 := hC.keep (i := 8) hI.len (by decide) (by decide)
                    clear hI hall hnot hcl hC hB
                    refine .inl ⟨wanted_none rfl, ?_⟩
                    unfold Oper.wp
                    go_simp
                    all_goals first | exact ⟨_, rfl, fun _ _ _ h => h, rfl, hC2⟩ | exact ⟨_, rfl, rfl, hC2⟩ | exact ⟨fun _ _ _ h => h, rfl, hC2⟩ | exact ⟨rfl, hC2⟩ | exact ⟨_, rfl, hC2⟩ | exact hC2
                  · simp at hq; subst hq
                    have g56 : act.tmps[56]?.getD undef = .pointer (some ⟨bl, ol + k, none⟩) := hI.has 8 56 rfl (hall ⟨8, .data⟩ (by simp) rfl)
                    have hC2 := hC.keep (i := 9) hI.len (by decide) (by decide)
                    clear hI hall hnot hcl hC hB
                    refine .inl ⟨wanted_none rfl, ?_⟩
                    unfold Oper.wp
                    go_simp
                    all_goals first | exact ⟨_, rfl, fun _ _ _ h => h, rfl, hC2⟩ | exact ⟨_, rfl, rfl, hC2⟩ | exact ⟨fun _ _ _ h => h, rfl, hC2⟩ | exact ⟨rfl, hC2⟩ | exact ⟨_, rfl, hC2⟩ | exact hC2
                  · simp at hq; subst hq
                    have g4 : act.tmps[4]?.getD undef = .pointer (some ⟨w.heap.size, 0, none⟩) := hI.kept 4 (by kernel_rfl)
                    have hC2 := hC.keep (i := 10) hI.len (by decide) (by decide)
                    clear hI hall hnot hcl hC hB
                    refine .inl ⟨wanted_none rfl, ?_⟩
                    unfold Oper.wp
                    go_simp
                    all_goals first | exact ⟨_, rfl, fun _ _ _ h => h, rfl, hC2⟩ | exact ⟨_, rfl, rfl, hC2⟩ | exact ⟨fun _ _ _ h => h, rfl, hC2⟩ | exact ⟨rfl, hC2⟩ | exact ⟨_, rfl, hC2⟩ | exact hC2
                  · simp at hq; subst hq
                    have g58 : act.tmps[58]?.getD undef = .pointer (some ⟨w.heap.size, 2, none⟩) := hI.has 10 58 rfl (hall ⟨10, .data⟩ (by simp) rfl)
                    have hC2 := hC.keep (i := 11) hI.len (by decide) (by decide)
                    clear hI hall hnot hcl hC hB
                    refine .inl ⟨wanted_none rfl, ?_⟩
                    unfold Oper.wp
                    go_simp
                    all_goals first | exact ⟨_, rfl, fun _ _ _ h => h, rfl, hC2⟩ | exact ⟨_, rfl, rfl, hC2⟩ | exact ⟨fun _ _ _ h => h, rfl, hC2⟩ | exact ⟨rfl, hC2⟩ | exact ⟨_, rfl, hC2⟩ | exact hC2
                  · simp at hq; subst hq
                    have g12 : act.tmps[12]?.getD undef = .int .i64 k := hI.kept 12 (by kernel_rfl)
                    have hC2 := hC.keep (i := 12) hI.len (by decide) (by decide)
                    clear hI hall hnot hcl hC hB
                    refine .inl ⟨wanted_none rfl, ?_⟩
                    unfold Oper.wp
                    go_simp
                    all_goals first | exact ⟨_, rfl, fun _ _ _ h => h, rfl, hC2⟩ | exact ⟨_, rfl, rfl, hC2⟩ | exact ⟨fun _ _ _ h => h, rfl, hC2⟩ | exact ⟨rfl, hC2⟩ | exact ⟨_, rfl, hC2⟩ | exact hC2
                  · simp at hq; subst hq
                    have g59 : act.tmps[59]?.getD undef = .slice (some ⟨bd, od, none⟩) d.length cd := hI.has 11 59 rfl (hall ⟨11, .data⟩ (by simp) rfl)
                    have g60 : act.tmps[60]?.getD undef = .int .i64 k := hI.has 12 60 rfl (hall ⟨12, .data⟩ (by simp) rfl)
                    have hC2 := hC.keep (i := 13) hI.len (by decide) (by decide)
                    clear hI hall hnot hcl hC hB
                    refine .inl ⟨wanted_none rfl, ?_⟩
                    unfold Oper.wp
                    go_simp
                    all_goals first | exact ⟨_, rfl, fun _ _ _ h => h, rfl, hC2⟩ | exact ⟨_, rfl, rfl, hC2⟩ | exact ⟨fun _ _ _ h => h, rfl, hC2⟩ | exact ⟨rfl, hC2⟩ | exact ⟨_, rfl, hC2⟩ | exact hC2
                  · simp at hq; subst hq
                    have g61 : act.tmps[61]?.getD undef = .pointer (some ⟨bd, od + k, none⟩) := hI.has 13 61 rfl (hall ⟨13, .data⟩ (by simp) rfl)
                    have hC2 := hC.keep (i := 14) hI.len (by decide) (by decide)
                    clear hI hall hnot hcl hC hB
                    refine .inl ⟨wanted_none rfl, ?_⟩
                    unfold Oper.wp
                    go_simp
                    all_goals first | exact ⟨_, rfl, fun _ _ _ h => h, rfl, hC2⟩ | exact ⟨_, rfl, rfl, hC2⟩ | exact ⟨fun _ _ _ h => h, rfl, hC2⟩ | exact ⟨rfl, hC2⟩ | exact ⟨_, rfl, hC2⟩ | exact hC2
                  · simp at hq; subst hq
                    have g10 : act.tmps[10]?.getD undef = .pointer (some ⟨w2.heap.size, 0, none⟩) := hI.kept 10 (by kernel_rfl)
                    have g52 : act.tmps[52]?.getD undef = .float .f32 x := hI.has 4 52 rfl (hall ⟨4, .data⟩ (by simp) rfl)
                    have g57 : act.tmps[57]?.getD undef = .float .f32 y := hI.has 9 57 rfl (hall ⟨9, .data⟩ (by simp) rfl)
                    have g62 : act.tmps[62]?.getD undef = .float .f32 z := hI.has 14 62 rfl (hall ⟨14, .data⟩ (by simp) rfl)
                    have hlen := hI.len
                    have hC1 := hC.ahead hnot
                    clear hI hall hnot hcl hC hB
                    refine .inl ⟨wanted_none rfl, ?_⟩
                    unfold Oper.wp
                    go_simp
                    refine (s_l02Put _ _ _ x' y' z' _ _ _ _ w1 w3 hC1 HLN1.out ((rfl : canon .f32 _ = _).trans HX1.out.symm) ((rfl : canon .f32 _ = _).trans HY1.out.symm) ((rfl : canon .f32 _ = _).trans HZ1.out.symm)).mono ?_
                    rintro e w4 ⟨rfl, hQ⟩
                    first | exact ⟨_, rfl, fun _ _ _ h => h, rfl, CF.call hQ hlen (by decide)⟩ | exact ⟨_, rfl, rfl, CF.call hQ hlen (by decide)⟩ | exact ⟨rfl, CF.call hQ hlen (by decide)⟩ | exact CF.call hQ hlen (by decide)
                  · simp at hq
                case hend =>
                  intro listed act w3 hI hall
                  have hC := hI.cls
                  have hB := hC.below
                  obtain ⟨-, ⟨kx0, kx1, kx2⟩, -, -, -⟩ := L0.out.below hB
                  have hca := HCA.out _ hB
                  have hcl2 := HCL.out _ hB
                  have hcd := HCD.out _ hB
                  have hQ := (hI.cls).done (hall 15 (by decide))
                  have g12 := hI.kept 12 (by kernel_rfl)
                  conv at g12 => rhs; whnf
                  have g0 := hI.kept 0 (by kernel_rfl)
                  conv at g0 => rhs; whnf
                  have g1 := hI.kept 1 (by kernel_rfl)
                  conv at g1 => rhs; whnf
                  have g2 := hI.kept 2 (by kernel_rfl)
                  conv at g2 => rhs; whnf
                  have g3 := hI.kept 3 (by kernel_rfl)
                  conv at g3 => rhs; whnf
                  have g4 := hI.kept 4 (by kernel_rfl)
                  conv at g4 => rhs; whnf
                  have g5 : act.tmps[5]?.getD undef = undef := hI.kept 5 (by kernel_rfl)
                  have g6 : act.tmps[6]?.getD undef = undef := hI.kept 6 (by kernel_rfl)
                  have g7 : act.tmps[7]?.getD undef = undef := hI.kept 7 (by kernel_rfl)
                  have g8 := hI.kept 8 (by kernel_rfl)
                  conv at g8 => rhs; whnf
                  have g9 := hI.kept 9 (by kernel_rfl)
                  conv at g9 => rhs; whnf
                  have g10 := hI.kept 10 (by kernel_rfl)
                  conv at g10 => rhs; whnf
                  have g13 := hI.kept 13 (by kernel_rfl)
                  conv at g13 => rhs; whnf
                  have g14 := hI.kept 14 (by kernel_rfl)
                  conv at g14 => rhs; whnf
                  have g15 := hI.kept 15 (by kernel_rfl)
                  conv at g15 => rhs; whnf
                  have g16 := hI.kept 16 (by kernel_rfl)
                  conv at g16 => rhs; whnf
                  have g17 := hI.kept 17 (by kernel_rfl)
                  conv at g17 => rhs; whnf
                  have g18 := hI.kept 18 (by kernel_rfl)
                  conv at g18 => rhs; whnf
                  have g19 := hI.kept 19 (by kernel_rfl)
                  conv at g19 => rhs; whnf
                  have g20 := hI.kept 20 (by kernel_rfl)
                  conv at g20 => rhs; whnf
                  have g21 := hI.kept 21 (by kernel_rfl)
                  conv at g21 => rhs; whnf
                  have g22 := hI.kept 22 (by kernel_rfl)
                  conv at g22 => rhs; whnf
                  have g23 := hI.kept 23 (by kernel_rfl)
                  conv at g23 => rhs; whnf
                  have g25 := hI.kept 25 (by kernel_rfl)
                  conv at g25 => rhs; whnf
                  have g64 : act.tmps[64]?.getD undef = undef := hI.kept 64 (by kernel_rfl)
                  have g65 : act.tmps[65]?.getD undef = undef := hI.kept 65 (by kernel_rfl)
                  have g66 : act.tmps[66]?.getD undef = undef := hI.kept 66 (by kernel_rfl)
                  have g67 : act.tmps[67]?.getD undef = undef := hI.kept 67 (by kernel_rfl)
                  have g68 : act.tmps[68]?.getD undef = undef := hI.kept 68 (by kernel_rfl)
                  have g69 : act.tmps[69]?.getD undef = undef := hI.kept 69 (by kernel_rfl)
                  have g70 : act.tmps[70]?.getD undef = undef := hI.kept 70 (by kernel_rfl)
                  have g71 : act.tmps[71]?.getD undef = undef := hI.kept 71 (by kernel_rfl)
                  have g72 : act.tmps[72]?.getD undef = undef := hI.kept 72 (by kernel_rfl)
                  have g73 : act.tmps[73]?.getD undef = undef := hI.kept 73 (by kernel_rfl)
                  have g11 := hI.kept 11 (by kernel_rfl)
                  conv at g11 => rhs; whnf
                  have g24 : act.tmps[24]?.getD undef = undef := hI.kept 24 (by kernel_rfl)
                  have hsz : act.tmps.size = 74 := hI.size.trans (by kernel_rfl)
                  have hd := hI.defers
                  clear hI hall
                  obtain ⟨tt, dd⟩ := act
                  simp only at g0 g1 g2 g3 g4 g5 g6 g7 g8 g9 g10 g11 g12 g13 g14 g15 g16 g17 g18 g19 g20 g21 g22 g23 g24 g25 g64 g65 g66 g67 g68 g69 g70 g71 g72 g73 hsz hd
                  subst hd
                  have hl : tt = #[tt[0]?.getD undef, tt[1]?.getD undef, tt[2]?.getD undef, tt[3]?.getD undef, tt[4]?.getD undef, tt[5]?.getD undef, tt[6]?.getD undef, tt[7]?.getD undef, tt[8]?.getD undef, tt[9]?.getD undef, tt[10]?.getD undef, tt[11]?.getD undef, tt[12]?.getD undef, tt[13]?.getD undef, tt[14]?.getD undef, tt[15]?.getD undef, tt[16]?.getD undef, tt[17]?.getD undef, tt[18]?.getD undef, tt[19]?.getD undef, tt[20]?.getD undef, tt[21]?.getD undef, tt[22]?.getD undef, tt[23]?.getD undef, tt[24]?.getD undef, tt[25]?.getD undef, tt[26]?.getD undef, tt[27]?.getD undef, tt[28]?.getD undef, tt[29]?.getD undef, tt[30]?.getD undef, tt[31]?.getD undef, tt[32]?.getD undef, tt[33]?.getD undef, tt[34]?.getD undef, tt[35]?.getD undef, tt[36]?.getD undef, tt[37]?.getD undef, tt[38]?.getD undef, tt[39]?.getD undef, tt[40]?.getD undef, tt[41]?.getD undef, tt[42]?.getD undef, tt[43]?.getD undef, tt[44]?.getD undef, tt[45]?.getD undef, tt[46]?.getD undef, tt[47]?.getD undef, tt[48]?.getD undef, tt[49]?.getD undef, tt[50]?.getD undef, tt[51]?.getD undef, tt[52]?.getD undef, tt[53]?.getD undef, tt[54]?.getD undef, tt[55]?.getD undef, tt[56]?.getD undef, tt[57]?.getD undef, tt[58]?.getD undef, tt[59]?.getD undef, tt[60]?.getD undef, tt[61]?.getD undef, tt[62]?.getD undef, tt[63]?.getD undef, tt[64]?.getD undef, tt[65]?.getD undef, tt[66]?.getD undef, tt[67]?.getD undef, tt[68]?.getD undef, tt[69]?.getD undef, tt[70]?.getD undef, tt[71]?.getD undef, tt[72]?.getD undef, tt[73]?.getD undef] := (arr_lit hsz).trans rfl
                  rw [g0, g1, g2, g3, g4, g5, g6, g7, g8, g9, g10, g11, g12, g13, g14, g15, g16, g17, g18, g19, g20, g21, g22, g23, g24, g25, g64, g65, g66, g67, g68, g69, g70, g71, g72, g73] at hl
                  clear g0 g1 g2 g3 g4 g5 g6 g7 g8 g9 g10 g11 g12 g13 g14 g15 g16 g17 g18 g19 g20 g21 g22 g23 g24 g25 g64 g65 g66 g67 g68 g69 g70 g71 g72 g73 hsz
                  generalize tt[26]?.getD undef = y26 at hl
                  generalize tt[27]?.getD undef = y27 at hl
                  generalize tt[28]?.getD undef = y28 at hl
                  generalize tt[29]?.getD undef = y29 at hl
                  generalize tt[30]?.getD undef = y30 at hl
                  generalize tt[31]?.getD undef = y31 at hl
                  generalize tt[32]?.getD undef = y32 at hl
                  generalize tt[33]?.getD undef = y33 at hl
                  generalize tt[34]?.getD undef = y34 at hl
                  generalize tt[35]?.getD undef = y35 at hl
                  generalize tt[36]?.getD undef = y36 at hl
                  generalize tt[37]?.getD undef = y37 at hl
                  generalize tt[38]?.getD undef = y38 at hl
                  generalize tt[39]?.getD undef = y39 at hl
                  generalize tt[40]?.getD undef = y40 at hl
                  generalize tt[41]?.getD undef = y41 at hl
                  generalize tt[42]?.getD undef = y42 at hl
                  generalize tt[43]?.getD undef = y43 at hl
                  generalize tt[44]?.getD undef = y44 at hl
                  generalize tt[45]?.getD undef = y45 at hl
                  generalize tt[46]?.getD undef = y46 at hl
                  generalize tt[47]?.getD undef = y47 at hl
                  generalize tt[48]?.getD undef = y48 at hl
                  generalize tt[49]?.getD undef = y49 at hl
                  generalize tt[50]?.getD undef = y50 at hl
                  generalize tt[51]?.getD undef = y51 at hl
                  generalize tt[52]?.getD undef = y52 at hl
                  generalize tt[53]?.getD undef = y53 at hl
                  generalize tt[54]?.getD undef = y54 at hl
                  generalize tt[55]?.getD undef = y55 at hl
                  generalize tt[56]?.getD undef = y56 at hl
                  generalize tt[57]?.getD undef = y57 at hl
                  generalize tt[58]?.getD undef = y58 at hl
                  generalize tt[59]?.getD undef = y59 at hl
                  generalize tt[60]?.getD undef = y60 at hl
                  generalize tt[61]?.getD undef = y61 at hl
                  generalize tt[62]?.getD undef = y62 at hl
                  generalize tt[63]?.getD undef = y63 at hl
                  subst hl
                  have HQ2 := Lib.hid hQ
                  clear hQ
                  go_wp2
                  go_roundw
                  case rel => exact ⟨k + 1, by omega, by rw [HPE.out, HP2.out], by go_num, Lib.hid (by rw [HT.out.1, HT.out.2.1, HT.out.2.2]; exact HQ2.out)⟩
                  case measure => simp [intOf]; omega
          · have hkk : k = a.length := by omega
            subst hkk
            clear hk
            cases hpp : addP a q a.length
            · rw [hpp, if_neg (by simp)] at HXA HYA HZA
              go_wp2_with fail
              refine (s_l02Put q u v q u v w2.heap.size _ _ _ w1 _ HQ.out (by simp only [addK_length, hpp]; simp; omega) rfl rfl rfl).mono ?_
              rintro e w5 ⟨rfl, hq5⟩
              rw [← HXA.out, ← HYA.out, ← HZA.out] at hq5
              have HQ' := Lib.hid hq5
              clear hq5 HQ k0 k1 k2 HXA HYA HZA hpp
              obtain ⟨v1, v2, v3, xs, ys, zs, hF, c1, c2, c3⟩ := HQ'.out
              have hnx : xs ≠ [] := by intro e; have h1 := congrArg List.length e; have h2 := c1.1; have h3 := HXL.out; simp only [List.length_nil] at h1; omega
              have hny : ys ≠ [] := by intro e; have h1 := congrArg List.length e; have h2 := c2.1; have h3 := HYL.out; simp only [List.length_nil] at h1; omega
              have hnz : zs ≠ [] := by intro e; have h1 := congrArg List.length e; have h2 := c3.1; have h3 := HZL.out; simp only [List.length_nil] at h1; omega
              obtain ⟨R1, R2, R3, d1, d2, d3, g1, g2, g3, rfl, rfl, rfl, hown⟩ := hF.g.own hnx hny hnz
              have BL : Hid (BlkL w5 w2.heap.size [.slice R1 xs.length d1, .slice R2 ys.length d2, .slice R3 zs.length d3]) := Lib.hid hF.blk
              have BW : Hid (Below w1.heap.size w1 w5) := Lib.hid hF.g.below
              have HOWN := Lib.hid hown
              have HX : Hid (validP xs ys zs = validP X Y Z ∧ (validP X Y Z = true → xs = X ∧ ys = Y ∧ zs = Z)) := Lib.hid ⟨validP_CL c1 c2 c3, validP_eq c1 c2 c3⟩
              have HFW : Hid (Few xs ys zs) := Lib.hid (by have := HXL.out; have := HYL.out; have := HZL.out; unfold Few; rw [c1.1, c2.1, c3.1]; omega)
              clear hF hown c1 c2 c3 hnx hny hnz HQ'
              have BR : Hid (Below w.heap.size w w5) := Lib.hid (below_of B1.out B1.out.size BW.out)
              have LRR : Hid (BlkL w5 (w.heap.size + 1) [.slice none 0 0, .slice none 0 0, .slice none 0 0]) := Lib.hid (LR.out.below BW.out)
              obtain ⟨o0, o1, o2⟩ := BL.out.three
              obtain ⟨-, ⟨k0, k1, k2⟩, -, -, -⟩ := L0.out.below BW.out
              cases v : validP xs ys zs
              · have HN : Hid (O = false) := Lib.hid (by rw [HO.out, ← HX.out.1, v])
                have HE := Lib.hid (s_GiveP_no R1 R2 R3 d1 d2 d3 xs ys zs w5 HOWN.out.pf HFW.out v)
                clear v
                go_wp2_with fail
                refine HE.out.mono ?_
                rintro e w6 ⟨rfl, b6⟩
                have B6 : Hid (Below w.heap.size w w6) := Lib.hid (below_of BR.out BR.out.size b6)
                have LR6 : Hid (BlkL w6 (w.heap.size + 1) [.slice none 0 0, .slice none 0 0, .slice none 0 0]) := Lib.hid (LRR.out.below b6)
                clear b6 o0 o1 o2 k0 k1 k2
                have p0 := (LR6.out.2 0 _ rfl).1
                have q0 := (LR6.out.2 0 _ rfl).2
                have p1 := (LR6.out.2 1 _ rfl).1
                have q1 := (LR6.out.2 1 _ rfl).2
                have p2 := (LR6.out.2 2 _ rfl).1
                have q2 := (LR6.out.2 2 _ rfl).2
                go_wp2
                refine bodyPost_ret (v := .tuple #[.agg #[.slice none 0 0, .slice none 0 0, .slice none 0 0], .bool false]) ?_ rfl ?_
                · simp [results, Try.results21, go_sem, p0, p1, p2]
                · rw [HN.out]
                  exact ⟨none, none, none, 0, 0, 0, 0, 1, 2, rfl, OwnQ.none _ _, (((B6.out).setCell (p := ⟨w.heap.size + 1, 0, none⟩) (by show w.heap.size ≤ w.heap.size + 1; omega) _).setCell (p := ⟨w.heap.size + 1, 1, none⟩) (by show w.heap.size ≤ w.heap.size + 1; omega) _).setCell (p := ⟨w.heap.size + 1, 2, none⟩) (by show w.heap.size ≤ w.heap.size + 1; omega) _⟩
              · have HN : Hid (O = true) := Lib.hid (by rw [HO.out, ← HX.out.1, v])
                have HE := Lib.hid (s_GiveP_yes R1 R2 R3 d1 d2 d3 xs ys zs w5 HOWN.out.pf HFW.out v)
                obtain ⟨rfl, rfl, rfl⟩ := HX.out.2 (by rw [← HX.out.1, v])
                clear v
                go_wp2_with fail
                refine HE.out.mono ?_
                rintro e w6 ⟨rfl, b6⟩
                have B6 : Hid (Below w.heap.size w w6) := Lib.hid (below_of BR.out BR.out.size b6)
                have LR6 : Hid (BlkL w6 (w.heap.size + 1) [.slice none 0 0, .slice none 0 0, .slice none 0 0]) := Lib.hid (LRR.out.below b6)
                have HO6 := Lib.hid (HOWN.out.below b6)
                clear b6 o0 o1 o2 k0 k1 k2
                have p0 := (LR6.out.2 0 _ rfl).1
                have q0 := (LR6.out.2 0 _ rfl).2
                have p1 := (LR6.out.2 1 _ rfl).1
                have q1 := (LR6.out.2 1 _ rfl).2
                have p2 := (LR6.out.2 2 _ rfl).1
                have q2 := (LR6.out.2 2 _ rfl).2
                go_wp2
                refine bodyPost_ret (v := .tuple #[.agg #[.slice R1 xs.length d1, .slice R2 ys.length d2, .slice R3 zs.length d3], .bool true]) ?_ rfl ?_
                · simp [results, Try.results21, go_sem, p0, p1, p2]
                · rw [HN.out]
                  have z1 := Z1.out
                  exact ⟨R1, R2, R3, d1, d2, d3, g1, g2, g3, rfl, ((((HO6.out).setC (p := ⟨w.heap.size + 1, 0, none⟩) (by show w.heap.size + 1 < _; omega) _).setC (p := ⟨w.heap.size + 1, 1, none⟩) (by show w.heap.size + 1 < _; omega) _).setC (p := ⟨w.heap.size + 1, 2, none⟩) (by show w.heap.size + 1 < _; omega) _).base (by omega), (((B6.out).setCell (p := ⟨w.heap.size + 1, 0, none⟩) (by show w.heap.size ≤ w.heap.size + 1; omega) _).setCell (p := ⟨w.heap.size + 1, 1, none⟩) (by show w.heap.size ≤ w.heap.size + 1; omega) _).setCell (p := ⟨w.heap.size + 1, 2, none⟩) (by show w.heap.size ≤ w.heap.size + 1; omega) _⟩
            · rw [hpp, if_pos rfl] at HXA HYA HZA
              rw [← HXA.out, ← HYA.out, ← HZA.out] at HQ
              clear k0 k1 k2 HXA HYA HZA hpp
              obtain ⟨v1, v2, v3, xs, ys, zs, hF, c1, c2, c3⟩ := HQ.out
              have hnx : xs ≠ [] := by intro e; have h1 := congrArg List.length e; have h2 := c1.1; have h3 := HXL.out; simp only [List.length_nil] at h1; omega
              have hny : ys ≠ [] := by intro e; have h1 := congrArg List.length e; have h2 := c2.1; have h3 := HYL.out; simp only [List.length_nil] at h1; omega
              have hnz : zs ≠ [] := by intro e; have h1 := congrArg List.length e; have h2 := c3.1; have h3 := HZL.out; simp only [List.length_nil] at h1; omega
              obtain ⟨R1, R2, R3, d1, d2, d3, g1, g2, g3, rfl, rfl, rfl, hown⟩ := hF.g.own hnx hny hnz
              have BL : Hid (BlkL wr w2.heap.size [.slice R1 xs.length d1, .slice R2 ys.length d2, .slice R3 zs.length d3]) := Lib.hid hF.blk
              have BW : Hid (Below w1.heap.size w1 wr) := Lib.hid hF.g.below
              have HOWN := Lib.hid hown
              have HX : Hid (validP xs ys zs = validP X Y Z ∧ (validP X Y Z = true → xs = X ∧ ys = Y ∧ zs = Z)) := Lib.hid ⟨validP_CL c1 c2 c3, validP_eq c1 c2 c3⟩
              have HFW : Hid (Few xs ys zs) := Lib.hid (by have := HXL.out; have := HYL.out; have := HZL.out; unfold Few; rw [c1.1, c2.1, c3.1]; omega)
              clear hF hown c1 c2 c3 hnx hny hnz HQ
              have BR : Hid (Below w.heap.size w wr) := Lib.hid (below_of B1.out B1.out.size BW.out)
              have LRR : Hid (BlkL wr (w.heap.size + 1) [.slice none 0 0, .slice none 0 0, .slice none 0 0]) := Lib.hid (LR.out.below BW.out)
              obtain ⟨o0, o1, o2⟩ := BL.out.three
              obtain ⟨-, ⟨k0, k1, k2⟩, -, -, -⟩ := L0.out.below BW.out
              cases v : validP xs ys zs
              · have HN : Hid (O = false) := Lib.hid (by rw [HO.out, ← HX.out.1, v])
                have HE := Lib.hid (s_GiveP_no R1 R2 R3 d1 d2 d3 xs ys zs wr HOWN.out.pf HFW.out v)
                clear v
                go_wp2_with fail
                refine HE.out.mono ?_
                rintro e w6 ⟨rfl, b6⟩
                have B6 : Hid (Below w.heap.size w w6) := Lib.hid (below_of BR.out BR.out.size b6)
                have LR6 : Hid (BlkL w6 (w.heap.size + 1) [.slice none 0 0, .slice none 0 0, .slice none 0 0]) := Lib.hid (LRR.out.below b6)
                clear b6 o0 o1 o2 k0 k1 k2
                have p0 := (LR6.out.2 0 _ rfl).1
                have q0 := (LR6.out.2 0 _ rfl).2
                have p1 := (LR6.out.2 1 _ rfl).1
                have q1 := (LR6.out.2 1 _ rfl).2
                have p2 := (LR6.out.2 2 _ rfl).1
                have q2 := (LR6.out.2 2 _ rfl).2
                go_wp2
                refine bodyPost_ret (v := .tuple #[.agg #[.slice none 0 0, .slice none 0 0, .slice none 0 0], .bool false]) ?_ rfl ?_
                · simp [results, Try.results21, go_sem, p0, p1, p2]
                · rw [HN.out]
                  exact ⟨none, none, none, 0, 0, 0, 0, 1, 2, rfl, OwnQ.none _ _, (((B6.out).setCell (p := ⟨w.heap.size + 1, 0, none⟩) (by show w.heap.size ≤ w.heap.size + 1; omega) _).setCell (p := ⟨w.heap.size + 1, 1, none⟩) (by show w.heap.size ≤ w.heap.size + 1; omega) _).setCell (p := ⟨w.heap.size + 1, 2, none⟩) (by show w.heap.size ≤ w.heap.size + 1; omega) _⟩
              · have HN : Hid (O = true) := Lib.hid (by rw [HO.out, ← HX.out.1, v])
                have HE := Lib.hid (s_GiveP_yes R1 R2 R3 d1 d2 d3 xs ys zs wr HOWN.out.pf HFW.out v)
                obtain ⟨rfl, rfl, rfl⟩ := HX.out.2 (by rw [← HX.out.1, v])
                clear v
                go_wp2_with fail
                refine HE.out.mono ?_
                rintro e w6 ⟨rfl, b6⟩
                have B6 : Hid (Below w.heap.size w w6) := Lib.hid (below_of BR.out BR.out.size b6)
                have LR6 : Hid (BlkL w6 (w.heap.size + 1) [.slice none 0 0, .slice none 0 0, .slice none 0 0]) := Lib.hid (LRR.out.below b6)
                have HO6 := Lib.hid (HOWN.out.below b6)
                clear b6 o0 o1 o2 k0 k1 k2
                have p0 := (LR6.out.2 0 _ rfl).1
                have q0 := (LR6.out.2 0 _ rfl).2
                have p1 := (LR6.out.2 1 _ rfl).1
                have q1 := (LR6.out.2 1 _ rfl).2
                have p2 := (LR6.out.2 2 _ rfl).1
                have q2 := (LR6.out.2 2 _ rfl).2
                go_wp2
                refine bodyPost_ret (v := .tuple #[.agg #[.slice R1 xs.length d1, .slice R2 ys.length d2, .slice R3 zs.length d3], .bool true]) ?_ rfl ?_
                · simp [results, Try.results21, go_sem, p0, p1, p2]
                · rw [HN.out]
                  have z1 := Z1.out
                  exact ⟨R1, R2, R3, d1, d2, d3, g1, g2, g3, rfl, ((((HO6.out).setC (p := ⟨w.heap.size + 1, 0, none⟩) (by show w.heap.size + 1 < _; omega) _).setC (p := ⟨w.heap.size + 1, 1, none⟩) (by show w.heap.size + 1 < _; omega) _).setC (p := ⟨w.heap.size + 1, 2, none⟩) (by show w.heap.size + 1 < _; omega) _).base (by omega), (((B6.out).setCell (p := ⟨w.heap.size + 1, 0, none⟩) (by show w.heap.size ≤ w.heap.size + 1; omega) _).setCell (p := ⟨w.heap.size + 1, 1, none⟩) (by show w.heap.size ≤ w.heap.size + 1; omega) _).setCell (p := ⟨w.heap.size + 1, 2, none⟩) (by show w.heap.size ≤ w.heap.size + 1; omega) _⟩
end Go.Proofs.Ytplofbkollhjpaa
