/- EvenRotor: the specification. No statement is proved here. -/
import Derived.Test.YtiiiigldpbomkaaEvrM
namespace Go.Proofs.Ytiiiigldpbomkaa
open Go Go.RowKit
set_option maxHeartbeats 16000000 in
set_option maxRecDepth 100000 in
theorem s_EvenRotor (A L D : Option Addr) (ca cl cd : Nat) (a l d : List Nat) (c i : Int) (hub tip ch tu : Nat) (w : World) (h : Pf w A L D a l d) (hn : Few a l d) :
    Calls Try.prog 16 #[.agg #[.slice A a.length ca, .slice L l.length cl, .slice D d.length cd], .int .i64 c, .int .i64 i, .float .f32 hub, .float .f32 tip, .float .f32 ch, .float .f32 tu] w fun e w' => ∃ (R1 R2 R3 R4 : Option Addr) (c1 c2 c3 c4 g1 g2 g3 g4 : Nat), e = .returned (.tuple #[.agg #[.slice R1 (gLp (evO a l d c i hub tip ch tu) a).length c1, .slice R2 (gLp (evO a l d c i hub tip ch tu) l).length c2, .slice R3 (gLp (evO a l d c i hub tip ch tu) d).length c3, .slice R4 (gN (evO a l d c i hub tip ch tu) i.toNat) c4, .int .i64 (gC (evO a l d c i hub tip ch tu) c), .float .f32 (gN (evO a l d c i hub tip ch tu) hub), .float .f32 (gN (evO a l d c i hub tip ch tu) tip)], .bool (evO a l d c i hub tip ch tu)]) ∧ OwnT w' w.heap.size R1 R2 R3 R4 g1 g2 g3 g4 (gLp (evO a l d c i hub tip ch tu) a) (gLp (evO a l d c i hub tip ch tu) l) (gLp (evO a l d c i hub tip ch tu) d) (gLp (evO a l d c i hub tip ch tu) (evS i.toNat hub tip ch tu)) ∧ Below w.heap.size w w' := by
  have HP := Lib.hid h; clear h
  have HO : Hid (evO a l d c i hub tip ch tu = validR a l d (evS i.toNat hub tip ch tu) i.toNat c hub tip) := Lib.hid rfl
  have HON : Hid (validP a l d = false → evO a l d c i hub tip ch tu = false) := Lib.hid evO_p
  have HOZ : Hid (¬ (2 ≤ i ∧ i ≤ 12) → evO a l d c i hub tip ch tu = false) := Lib.hid evO_z
  generalize evO a l d c i hub tip ch tu = O at HO HON HOZ ⊢
  obtain ⟨n, HNI⟩ : ∃ n, Hid (n = i.toNat) := ⟨_, rfl⟩
  rw [← HNI.out] at HO ⊢
  have HSE : Hid ((evS n hub tip ch tu).length = n * 3 ∧ ∀ k, k < n → (evS n hub tip ch tu).getD (k * 3) 0 = evR n hub tip k ∧ (evS n hub tip ch tu).getD (k * 3 + 1) 0 = ch ∧ (evS n hub tip ch tu).getD (k * 3 + 2) 0 = tu) := Lib.hid ⟨evS_length, fun k hk => ⟨evS_0 hk, evS_1 hk, evS_2 hk⟩⟩
  generalize evS n hub tip ch tu = S' at HO HSE ⊢
  obtain ⟨i0, hi, hz0, hz1, hz2⟩ := info_parts st_infoT
  obtain ⟨w0, hw0⟩ : ∃ q, q = (w.alloc (.cells #[.slice A a.length ca, .slice L l.length cl, .slice D d.length cd] 27)).alloc (.cells #[.slice none 0 0, .slice none 0 0, .slice none 0 0, .slice none 0 0, .int .i64 0, .float .f32 0, .float .f32 0] 30) := ⟨_, rfl⟩
  have B0 : Hid (Below w.heap.size w w0) := Lib.hid (by rw [hw0]; exact ((Below.refl _ _).alloc (Nat.le_refl _) _).alloc (by simp) _)
  have K0 : Hid (BlkL w0 w.heap.size [.slice A a.length ca, .slice L l.length cl, .slice D d.length cd]) := Lib.hid (by rw [hw0]; exact (blkL_at w #[.slice A a.length ca, .slice L l.length cl, .slice D d.length cd] _ rfl).alloc _)
  have KR : Hid (BlkL w0 (w.heap.size + 1) [.slice none 0 0, .slice none 0 0, .slice none 0 0, .slice none 0 0, .int .i64 0, .float .f32 0, .float .f32 0]) := Lib.hid (by rw [hw0]; exact blkL_at (w.alloc _) #[.slice none 0 0, .slice none 0 0, .slice none 0 0, .slice none 0 0, .int .i64 0, .float .f32 0, .float .f32 0] _ (by simp))
  have Z0 : Hid (w0.heap.size = w.heap.size + 2) := Lib.hid (by rw [hw0]; simp)
  go_enter Try.func16, Try.ntmps16
  go_wp2_with fail
  rw [← hw0]
  clear hw0
  refine (s_l02Is A L D ca cl cd a l d w.heap.size _ (HP.out.below B0.out) (blk3_ofL K0.out) hn).mono ?_
  rintro e w1 ⟨m, rfl, hw1⟩
  have b : Below w0.heap.size w0 w1 := by rw [hw1]; exact below_draws (Below.refl _ _) _
  clear hw1
  have L0 : Hid (BlkL w1 w.heap.size [.slice A a.length ca, .slice L l.length cl, .slice D d.length cd]) := Lib.hid (K0.out.below b)
  have LR : Hid (BlkL w1 (w.heap.size + 1) [.slice none 0 0, .slice none 0 0, .slice none 0 0, .slice none 0 0, .int .i64 0, .float .f32 0, .float .f32 0]) := Lib.hid (KR.out.below b)
  have B1 : Hid (Below w.heap.size w w1) := Lib.hid (below_of B0.out B0.out.size b)
  have Z1 : Hid (w.heap.size + 2 ≤ w1.heap.size) := Lib.hid (by have := b.size; have := Z0.out; omega)
  clear b K0 KR B0 Z0
  cases v0 : validP a l d
  · have HN := Lib.hid (HON.out v0)
    clear v0
    have p0 := (LR.out.2 0 _ rfl).1
    have q0 := (LR.out.2 0 _ rfl).2
    have p1 := (LR.out.2 1 _ rfl).1
    have q1 := (LR.out.2 1 _ rfl).2
    have p2 := (LR.out.2 2 _ rfl).1
    have q2 := (LR.out.2 2 _ rfl).2
    have p3 := (LR.out.2 3 _ rfl).1
    have q3 := (LR.out.2 3 _ rfl).2
    have p4 := (LR.out.2 4 _ rfl).1
    have q4 := (LR.out.2 4 _ rfl).2
    have p5 := (LR.out.2 5 _ rfl).1
    have q5 := (LR.out.2 5 _ rfl).2
    have p6 := (LR.out.2 6 _ rfl).1
    have q6 := (LR.out.2 6 _ rfl).2
    go_wp2
    refine bodyPost_ret (v := .tuple #[.agg #[.slice none 0 0, .slice none 0 0, .slice none 0 0, .slice none 0 0, .int .i64 0, .float .f32 0, .float .f32 0], .bool false]) ?_ rfl ?_
    · simp [results, Try.results16, go_sem, p0, p1, p2, p3, p4, p5, p6]
    · rw [HN.out]
      exact ⟨none, none, none, none, 0, 0, 0, 0, 0, 1, 2, 3, rfl, OwnT.none _ _, (((((((B1.out).setCell (p := ⟨w.heap.size + 1, 0, none⟩) (by show w.heap.size ≤ w.heap.size + 1; omega) _).setCell (p := ⟨w.heap.size + 1, 1, none⟩) (by show w.heap.size ≤ w.heap.size + 1; omega) _).setCell (p := ⟨w.heap.size + 1, 2, none⟩) (by show w.heap.size ≤ w.heap.size + 1; omega) _).setCell (p := ⟨w.heap.size + 1, 3, none⟩) (by show w.heap.size ≤ w.heap.size + 1; omega) _).setCell (p := ⟨w.heap.size + 1, 4, none⟩) (by show w.heap.size ≤ w.heap.size + 1; omega) _).setCell (p := ⟨w.heap.size + 1, 5, none⟩) (by show w.heap.size ≤ w.heap.size + 1; omega) _).setCell (p := ⟨w.heap.size + 1, 6, none⟩) (by show w.heap.size ≤ w.heap.size + 1; omega) _⟩
  · obtain ⟨s1, s2, s3, s4⟩ := sized_of v0
    have h1 : 1 ≤ a.length := by omega
    have h2 : 1 ≤ l.length := by omega
    have h3 : 1 ≤ d.length := by omega
    have HNW := Lib.hid hn
    have HSM : Hid (a.length + l.length + d.length + 12 ≤ 1048576) := Lib.hid (by omega)
    clear v0 HON s1 s2 s3 s4 hn
    go_wp2_with fail
    refine (s_l00In _ _ _ _).mono ?_
    rintro e wq ⟨rfl, hwq⟩
    rw [hwq]
    clear hwq
    by_cases hc : 2 ≤ i ∧ i ≤ 12
    · rw [show (decide ((2 : Int) ≤ i) && decide (i ≤ 12)) = true by simp [hc]]
      have hin : i = (n : Int) := by have := HNI.out; omega
      have hnb : 2 ≤ n ∧ n ≤ 12 := by omega
      clear HNI HOZ hc
      subst hin
      go_wp2_with fail
      refine (s_l02Own A L D ca cl cd w.heap.size a l d _ (HP.out.below B1.out) HNW.out h1 h2 h3 L0.out).mono ?_
      rintro e w2 ⟨b1, b2, b3, c1, c2, c3, rfl, o1, o2, o3, g1, g2, g3, b⟩
      obtain ⟨wb, hwb⟩ : ∃ q, q = w2.alloc (.cells #[.slice (some ⟨b1, 0, none⟩) a.length c1, .slice (some ⟨b2, 0, none⟩) l.length c2, .slice (some ⟨b3, 0, none⟩) d.length c3, .slice none 0 0, .int .i64 c, .float .f32 hub, .float .f32 tip] 30) := ⟨_, rfl⟩
      have bb : Below w2.heap.size w2 wb := by rw [hwb]; exact (Below.refl _ _).alloc (Nat.le_refl _) _
      have bq := below_of b b.size bb
      obtain ⟨BC, hBC⟩ : ∃ q, q = w2.heap.size := ⟨_, rfl⟩
      have KB : Hid (BlkL wb BC [.slice (some ⟨b1, 0, none⟩) a.length c1, .slice (some ⟨b2, 0, none⟩) l.length c2, .slice (some ⟨b3, 0, none⟩) d.length c3, .slice none 0 0, .int .i64 c, .float .f32 hub, .float .f32 tip]) := Lib.hid (by rw [hwb, hBC]; exact blkL_at w2 #[_, _, _, _, _, _, _] _ rfl)
      have KR : Hid (BlkL wb (w.heap.size + 1) [.slice none 0 0, .slice none 0 0, .slice none 0 0, .slice none 0 0, .int .i64 0, .float .f32 0, .float .f32 0]) := Lib.hid (LR.out.below bq)
      have Q1 := Lib.hid (o1.below bb)
      have Q2 := Lib.hid (o2.below bb)
      have Q3 := Lib.hid (o3.below bb)
      have HLV : Hid (w.heap.size + 2 ≤ b1 ∧ b1 < b2 ∧ b2 < b3 ∧ b3 < BC ∧ BC < wb.heap.size) := Lib.hid (by have := Z1.out; have := o3.1; rw [hwb, hBC]; refine ⟨by omega, by omega, by omega, by omega, by simp⟩)
      have BB : Hid (Below w.heap.size w wb) := Lib.hid (below_of B1.out B1.out.size bq)
      clear o1 o2 o3 g1 g2 g3 b bb bq L0 LR B1 h1 h2 h3
      go_upto_region 4 with fail
      rw [← hwb, ← hBC]
      clear hwb hBC
      go_wp2
      go_loopw [17] (fun i wr => ∃ (k : Nat) (v : Value) (xs : List Nat), k ≤ n ∧ i = .int .i64 k ∧ Hid (Gr3 wr wb.heap.size v k xs) ∧ Hid (Pre3 S' xs k) ∧ Hid (BlkL wr BC [.slice (some ⟨b1, 0, none⟩) a.length c1, .slice (some ⟨b2, 0, none⟩) l.length c2, .slice (some ⟨b3, 0, none⟩) d.length c3, v, .int .i64 c, .float .f32 hub, .float .f32 tip]) ∧ Hid (Turn wb wr (fun b => b = BC))) (fun i _ => n - (intOf i).toNat)
      case atStart => exact ⟨0, _, [], Nat.zero_le _, rfl, Lib.hid (World.ownsRow_nil _ _ _ _), Lib.hid (Pre3.nil _), KB, Lib.hid (Turn.refl _ _)⟩
      case round =>
        obtain ⟨k, v, xs, hk, rfl, HG, HM, HBL, HT⟩ := hrel
        by_cases hlt : k < n
        · go_upto_region 8 with fail
          obtain ⟨q0, q, wq, HQ⟩ : ∃ q0 q wq, Hid (q0 = fopV .add .f32 (floatOfInt .f32 (k : Int)) 1056964608 wr ∧ q = fopV .quo .f32 q0 (floatOfInt .f32 (n : Int)) (wr.drewN (fopN .add .f32 (floatOfInt .f32 (k : Int)) 1056964608)) ∧ wq = wr.drewN (fopN .add .f32 (floatOfInt .f32 (k : Int)) 1056964608 + fopN .quo .f32 q0 (floatOfInt .f32 (n : Int)))) := ⟨_, _, _, rfl, rfl, rfl⟩
          rw [← HQ.out.1, ← HQ.out.2.1, ← HQ.out.2.2]
          have HQC : Hid (canon .f32 q = evQ n k) := Lib.hid (by rw [HQ.out.2.1, canon_fopV, HQ.out.1, canon_fopV]; rfl)
          have HG1 : Hid (Gr3 wq wb.heap.size v k xs) := Lib.hid (by rw [HQ.out.2.2]; exact HG.out.below (below_draws (Below.refl _ _) _))
          have HBL1 : Hid (BlkL wq BC [.slice (some ⟨b1, 0, none⟩) a.length c1, .slice (some ⟨b2, 0, none⟩) l.length c2, .slice (some ⟨b3, 0, none⟩) d.length c3, v, .int .i64 c, .float .f32 hub, .float .f32 tip]) := Lib.hid (by rw [HQ.out.2.2]; exact HBL.out.below (below_draws (Below.refl _ _) _))
          have HT1 : Hid (Turn wb wq (fun b => b = BC)) := Lib.hid (by rw [HQ.out.2.2]; exact HT.out.trans (Turn.of_below (below_draws (Below.refl _ _) _) _))
          clear HQ HG HBL HT
          have k3 := (HBL1.out.2 3 _ rfl).1
          have HGD : ∀ m, Hid (World.ownsRow (wq.drewN m) wb.heap.size 47 3 v k (xs.map (Value.float .f32))) := fun m => Lib.hid HG1.out
          go_wp2_with (first
            | (at_builtin; refine wpList_append_own _ rfl _ _ 28 rfl wb.heap.size 47 i0 (.agg #[.float .f32 0, .float .f32 0, .float .f32 0]) 3 12 Try.underlying28 hi hz0 hz1 hz2 rfl (by decide) _ _ _ rfl ((HGD _).out.alloc _) ⟨_, 0, none⟩ 1 1 [.float .f32 (fopV .add .f32 hub (fopV .mul .f32 (fopV .sub .f32 tip hub wq) q (wq.drewN (fopN .sub .f32 tip hub))) (wq.drewN (fopN .sub .f32 tip hub + fopN .mul .f32 (fopV .sub .f32 tip hub wq) q))), .float .f32 ch, .float .f32 tu] rfl rfl ?c1 ?c2 ?c3 ?c4 ?c5 ?_)
            | fail)
          case c1 =>
            intro j u hj
            match j, hj with
            | 0, hj => simp at hj; subst hj; exact ((blkL_at (World.drewN wq _) #[_, .float .f32 ch, .float .f32 tu] _ rfl).2 0 _ rfl).1
            | 1, hj => simp at hj; subst hj; exact ((blkL_at (World.drewN wq _) #[_, .float .f32 ch, .float .f32 tu] _ rfl).2 1 _ rfl).1
            | 2, hj => simp at hj; subst hj; exact ((blkL_at (World.drewN wq _) #[_, .float .f32 ch, .float .f32 tu] _ rfl).2 2 _ rfl).1
          case c2 => intro u hu; simp at hu; rcases hu with rfl | rfl | rfl <;> rfl
          case c3 => unfold maxLen; omega
          case c4 => omega
          case c5 => have := HT1.out.1; simp; omega
          · intro v' w2 hown' hgrow _
            obtain ⟨r, HR⟩ : ∃ r, Hid (r = fopV .add .f32 hub (fopV .mul .f32 (fopV .sub .f32 tip hub wq) q (wq.drewN (fopN .sub .f32 tip hub))) (wq.drewN (fopN .sub .f32 tip hub + fopN .mul .f32 (fopV .sub .f32 tip hub wq) q))) := ⟨_, rfl⟩
            rw [← HR.out] at hown' ⊢
            have HRR : Hid (canon .f32 r = canon .f32 (evR n hub tip k)) := Lib.hid (evR_spec HQC.out HR.out)
            have HF := HG1.out.form.2
            have hT2 := HT1.out.grownE _ hgrow HF
            have hne : some BC ≠ v.ownBlock := fun e => by have := HF BC e.symm; have := HLV.out; omega
            have hB2 := HBL1.out.grownE _ hgrow hne
            have hg2 : Gr3 w2 wb.heap.size v' (k + 1) (xs ++ [r, ch, tu]) := by unfold Gr3; simpa using hown'
            obtain ⟨⟨A', cp', rfl⟩, -⟩ := hg2.form
            have k3' := (hB2.2 3 _ rfl).1
            have f3' := (hB2.2 3 _ rfl).2
            have HM3 : Hid (Pre3 S' (xs ++ [r, ch, tu]) (k + 1)) := Lib.hid (HM.out.snoc (by rw [HRR.out, (HSE.out.2 k hlt).1]) (by rw [(HSE.out.2 k hlt).2.1]) (by rw [(HSE.out.2 k hlt).2.2]))
            have HG3 : Hid (Gr3 (w2.setCell ⟨BC, 3, none⟩ (.slice A' (k + 1) cp')) wb.heap.size (.slice A' (k + 1) cp') (k + 1) (xs ++ [r, ch, tu])) := Lib.hid (hg2.setE (by have := HLV.out; show BC < _; omega) _)
            have HB3 : Hid (BlkL (w2.setCell ⟨BC, 3, none⟩ (.slice A' (k + 1) cp')) BC [.slice (some ⟨b1, 0, none⟩) a.length c1, .slice (some ⟨b2, 0, none⟩) l.length c2, .slice (some ⟨b3, 0, none⟩) d.length c3, .slice A' (k + 1) cp', .int .i64 c, .float .f32 hub, .float .f32 tip]) := Lib.hid (hB2.set (i := 3) (by simp) _)
            have HT3 : Hid (Turn wb (w2.setCell ⟨BC, 3, none⟩ (.slice A' (k + 1) cp')) (fun b => b = BC)) := Lib.hid (hT2.trans (Turn.set _ ⟨BC, 3, none⟩ rfl _))
            clear hown' hgrow HF hT2 hne hB2 hg2 HG1 HBL1 HT1 HGD k3 HR HRR HQC
            go_wp2
            go_roundw
            case rel => exact ⟨k + 1, _, _, by omega, by go_num, HG3, HM3, HB3, HT3⟩
            case measure => simp [intOf]; omega
        · have hkk : k = n := by omega
          subst hkk
          obtain ⟨b4, c4, rfl, hlb, ho⟩ := rows_own HG.out (by omega)
          have e1 := HLV.out
          have HXC := Lib.hid (HM.out.cl HSE.out.1)
          have HX : Hid (validR a l d xs k c hub tip = validR a l d S' k c hub tip ∧ (validR a l d S' k c hub tip = true → xs = S' ∧ hub = hub ∧ tip = tip)) := Lib.hid (validR_CL HXC.out HM.out.1 rfl rfl)
          have LRR : Hid (BlkL wr (w.heap.size + 1) [.slice none 0 0, .slice none 0 0, .slice none 0 0, .slice none 0 0, .int .i64 0, .float .f32 0, .float .f32 0]) := Lib.hid (KR.out.turnS HT.out (by show ¬ w.heap.size + 1 = BC; omega))
          have P1 : Hid (Own wr b1 a) := Lib.hid (Q1.out.turn HT.out (by show ¬ b1 = BC; omega))
          have P2 : Hid (Own wr b2 l) := Lib.hid (Q2.out.turn HT.out (by show ¬ b2 = BC; omega))
          have P3 : Hid (Own wr b3 d) := Lib.hid (Q3.out.turn HT.out (by show ¬ b3 = BC; omega))
          have P4 : Hid (Own wr b4 xs) := Lib.hid ho
          have BR : Hid (Below w.heap.size w wr) := Lib.hid (HT.out.2.2.2 w BB.out (fun b hb => by have hb : b = BC := hb; omega))
          have HFW : Hid (FewR a l d xs k) := Lib.hid ⟨HM.out.1, by have := HSM.out; omega⟩
          have HLV2 : Hid (w.heap.size + 2 ≤ b1 ∧ b1 < b2 ∧ b2 < b3 ∧ b3 < b4) := Lib.hid (by omega)
          clear HLV
          have HLV := HLV2
          clear HLV2 e1 hlb ho KR KB Q1 Q2 Q3 BB HT HM HG HXC hlt hk
          obtain ⟨k0, k1, k2, k3, k4, k5, k6⟩ := HBL.out.sevenT
          have HRT : Hid (Rt wr (some ⟨b1, 0, none⟩) (some ⟨b2, 0, none⟩) (some ⟨b3, 0, none⟩) (some ⟨b4, 0, none⟩) a l d xs) := Lib.hid ⟨⟨P1.out.fl, P2.out.fl, P3.out.fl⟩, P4.out.fl⟩
          cases v : validR a l d xs k c hub tip
          · have HN : Hid (O = false) := Lib.hid (by rw [HO.out, ← HX.out.1, v])
            have HE := Lib.hid (s_l03Give_no (some ⟨b1, 0, none⟩) (some ⟨b2, 0, none⟩) (some ⟨b3, 0, none⟩) (some ⟨b4, 0, none⟩) c1 c2 c3 k c4 c hub tip a l d xs wr HRT.out HFW.out v)
            clear v
            go_wp2_with fail
            refine HE.out.mono ?_
            rintro e w6 ⟨rfl, b6⟩
            have B6 : Hid (Below w.heap.size w w6) := Lib.hid (below_of BR.out BR.out.size b6)
            have LR6 : Hid (BlkL w6 (w.heap.size + 1) [.slice none 0 0, .slice none 0 0, .slice none 0 0, .slice none 0 0, .int .i64 0, .float .f32 0, .float .f32 0]) := Lib.hid (LRR.out.below b6)
            have HT6 : Hid (OwnT w6 (w.heap.size + 2) (some ⟨b1, 0, none⟩) (some ⟨b2, 0, none⟩) (some ⟨b3, 0, none⟩) (some ⟨b4, 0, none⟩) b1 b2 b3 b4 a l d xs) := Lib.hid (by
              have := HLV.out
              exact ⟨⟨(P1.out.below b6).o (by omega), (P2.out.below b6).o (by omega), (P3.out.below b6).o (by omega), by omega, by omega, by omega⟩, (P4.out.below b6).o (by omega), by omega, by omega, by omega⟩)
            clear b6 k0 k1 k2 k3 k4 k5 k6
            have p0 := (LR6.out.2 0 _ rfl).1
            have q0 := (LR6.out.2 0 _ rfl).2
            have p1 := (LR6.out.2 1 _ rfl).1
            have q1 := (LR6.out.2 1 _ rfl).2
            have p2 := (LR6.out.2 2 _ rfl).1
            have q2 := (LR6.out.2 2 _ rfl).2
            have p3 := (LR6.out.2 3 _ rfl).1
            have q3 := (LR6.out.2 3 _ rfl).2
            have p4 := (LR6.out.2 4 _ rfl).1
            have q4 := (LR6.out.2 4 _ rfl).2
            have p5 := (LR6.out.2 5 _ rfl).1
            have q5 := (LR6.out.2 5 _ rfl).2
            have p6 := (LR6.out.2 6 _ rfl).1
            have q6 := (LR6.out.2 6 _ rfl).2
            go_wp2
            refine bodyPost_ret (v := .tuple #[.agg #[.slice none 0 0, .slice none 0 0, .slice none 0 0, .slice none 0 0, .int .i64 0, .float .f32 0, .float .f32 0], .bool false]) ?_ rfl ?_
            · simp [results, Try.results16, go_sem, p0, p1, p2, p3, p4, p5, p6]
            · rw [HN.out]
              exact ⟨none, none, none, none, 0, 0, 0, 0, 0, 1, 2, 3, rfl, OwnT.none _ _, (((((((B6.out).setCell (p := ⟨w.heap.size + 1, 0, none⟩) (by show w.heap.size ≤ w.heap.size + 1; omega) _).setCell (p := ⟨w.heap.size + 1, 1, none⟩) (by show w.heap.size ≤ w.heap.size + 1; omega) _).setCell (p := ⟨w.heap.size + 1, 2, none⟩) (by show w.heap.size ≤ w.heap.size + 1; omega) _).setCell (p := ⟨w.heap.size + 1, 3, none⟩) (by show w.heap.size ≤ w.heap.size + 1; omega) _).setCell (p := ⟨w.heap.size + 1, 4, none⟩) (by show w.heap.size ≤ w.heap.size + 1; omega) _).setCell (p := ⟨w.heap.size + 1, 5, none⟩) (by show w.heap.size ≤ w.heap.size + 1; omega) _).setCell (p := ⟨w.heap.size + 1, 6, none⟩) (by show w.heap.size ≤ w.heap.size + 1; omega) _⟩
          · have HN : Hid (O = true) := Lib.hid (by rw [HO.out, ← HX.out.1, v])
            obtain ⟨EQ, EQh, EQt⟩ := HX.out.2 (by rw [← HX.out.1, v])
            subst EQ
            have HE := Lib.hid (s_l03Give_yes (some ⟨b1, 0, none⟩) (some ⟨b2, 0, none⟩) (some ⟨b3, 0, none⟩) (some ⟨b4, 0, none⟩) c1 c2 c3 k c4 c hub tip a l d xs wr HRT.out HFW.out v)
            clear v
            go_wp2_with fail
            refine HE.out.mono ?_
            rintro e w6 ⟨rfl, b6⟩
            have B6 : Hid (Below w.heap.size w w6) := Lib.hid (below_of BR.out BR.out.size b6)
            have LR6 : Hid (BlkL w6 (w.heap.size + 1) [.slice none 0 0, .slice none 0 0, .slice none 0 0, .slice none 0 0, .int .i64 0, .float .f32 0, .float .f32 0]) := Lib.hid (LRR.out.below b6)
            have HT6 : Hid (OwnT w6 (w.heap.size + 2) (some ⟨b1, 0, none⟩) (some ⟨b2, 0, none⟩) (some ⟨b3, 0, none⟩) (some ⟨b4, 0, none⟩) b1 b2 b3 b4 a l d xs) := Lib.hid (by
              have := HLV.out
              exact ⟨⟨(P1.out.below b6).o (by omega), (P2.out.below b6).o (by omega), (P3.out.below b6).o (by omega), by omega, by omega, by omega⟩, (P4.out.below b6).o (by omega), by omega, by omega, by omega⟩)
            clear b6 k0 k1 k2 k3 k4 k5 k6
            have p0 := (LR6.out.2 0 _ rfl).1
            have q0 := (LR6.out.2 0 _ rfl).2
            have p1 := (LR6.out.2 1 _ rfl).1
            have q1 := (LR6.out.2 1 _ rfl).2
            have p2 := (LR6.out.2 2 _ rfl).1
            have q2 := (LR6.out.2 2 _ rfl).2
            have p3 := (LR6.out.2 3 _ rfl).1
            have q3 := (LR6.out.2 3 _ rfl).2
            have p4 := (LR6.out.2 4 _ rfl).1
            have q4 := (LR6.out.2 4 _ rfl).2
            have p5 := (LR6.out.2 5 _ rfl).1
            have q5 := (LR6.out.2 5 _ rfl).2
            have p6 := (LR6.out.2 6 _ rfl).1
            have q6 := (LR6.out.2 6 _ rfl).2
            go_wp2
            refine bodyPost_ret (v := .tuple #[.agg #[.slice (some ⟨b1, 0, none⟩) a.length c1, .slice (some ⟨b2, 0, none⟩) l.length c2, .slice (some ⟨b3, 0, none⟩) d.length c3, .slice (some ⟨b4, 0, none⟩) k c4, .int .i64 c, .float .f32 hub, .float .f32 tip], .bool true]) ?_ rfl ?_
            · simp [results, Try.results16, go_sem, p0, p1, p2, p3, p4, p5, p6]
            · rw [HN.out]
              exact ⟨_, _, _, _, c1, c2, c3, c4, b1, b2, b3, b4, rfl, ((((((((HT6.out).setT (p := ⟨w.heap.size + 1, 0, none⟩) (by show w.heap.size + 1 < _; omega) _).setT (p := ⟨w.heap.size + 1, 1, none⟩) (by show w.heap.size + 1 < _; omega) _).setT (p := ⟨w.heap.size + 1, 2, none⟩) (by show w.heap.size + 1 < _; omega) _).setT (p := ⟨w.heap.size + 1, 3, none⟩) (by show w.heap.size + 1 < _; omega) _).setT (p := ⟨w.heap.size + 1, 4, none⟩) (by show w.heap.size + 1 < _; omega) _).setT (p := ⟨w.heap.size + 1, 5, none⟩) (by show w.heap.size + 1 < _; omega) _).setT (p := ⟨w.heap.size + 1, 6, none⟩) (by show w.heap.size + 1 < _; omega) _).baseT (by omega), (((((((B6.out).setCell (p := ⟨w.heap.size + 1, 0, none⟩) (by show w.heap.size ≤ w.heap.size + 1; omega) _).setCell (p := ⟨w.heap.size + 1, 1, none⟩) (by show w.heap.size ≤ w.heap.size + 1; omega) _).setCell (p := ⟨w.heap.size + 1, 2, none⟩) (by show w.heap.size ≤ w.heap.size + 1; omega) _).setCell (p := ⟨w.heap.size + 1, 3, none⟩) (by show w.heap.size ≤ w.heap.size + 1; omega) _).setCell (p := ⟨w.heap.size + 1, 4, none⟩) (by show w.heap.size ≤ w.heap.size + 1; omega) _).setCell (p := ⟨w.heap.size + 1, 5, none⟩) (by show w.heap.size ≤ w.heap.size + 1; omega) _).setCell (p := ⟨w.heap.size + 1, 6, none⟩) (by show w.heap.size ≤ w.heap.size + 1; omega) _⟩
    · have HN := Lib.hid (HOZ.out hc)
      rw [show (decide ((2 : Int) ≤ i) && decide (i ≤ 12)) = false by simp; omega]
      clear hc
      have p0 := (LR.out.2 0 _ rfl).1
      have q0 := (LR.out.2 0 _ rfl).2
      have p1 := (LR.out.2 1 _ rfl).1
      have q1 := (LR.out.2 1 _ rfl).2
      have p2 := (LR.out.2 2 _ rfl).1
      have q2 := (LR.out.2 2 _ rfl).2
      have p3 := (LR.out.2 3 _ rfl).1
      have q3 := (LR.out.2 3 _ rfl).2
      have p4 := (LR.out.2 4 _ rfl).1
      have q4 := (LR.out.2 4 _ rfl).2
      have p5 := (LR.out.2 5 _ rfl).1
      have q5 := (LR.out.2 5 _ rfl).2
      have p6 := (LR.out.2 6 _ rfl).1
      have q6 := (LR.out.2 6 _ rfl).2
      go_wp2
      refine bodyPost_ret (v := .tuple #[.agg #[.slice none 0 0, .slice none 0 0, .slice none 0 0, .slice none 0 0, .int .i64 0, .float .f32 0, .float .f32 0], .bool false]) ?_ rfl ?_
      · simp [results, Try.results16, go_sem, p0, p1, p2, p3, p4, p5, p6]
      · rw [HN.out]
        exact ⟨none, none, none, none, 0, 0, 0, 0, 0, 1, 2, 3, rfl, OwnT.none _ _, (((((((B1.out).setCell (p := ⟨w.heap.size + 1, 0, none⟩) (by show w.heap.size ≤ w.heap.size + 1; omega) _).setCell (p := ⟨w.heap.size + 1, 1, none⟩) (by show w.heap.size ≤ w.heap.size + 1; omega) _).setCell (p := ⟨w.heap.size + 1, 2, none⟩) (by show w.heap.size ≤ w.heap.size + 1; omega) _).setCell (p := ⟨w.heap.size + 1, 3, none⟩) (by show w.heap.size ≤ w.heap.size + 1; omega) _).setCell (p := ⟨w.heap.size + 1, 4, none⟩) (by show w.heap.size ≤ w.heap.size + 1; omega) _).setCell (p := ⟨w.heap.size + 1, 5, none⟩) (by show w.heap.size ≤ w.heap.size + 1; omega) _).setCell (p := ⟨w.heap.size + 1, 6, none⟩) (by show w.heap.size ≤ w.heap.size + 1; omega) _⟩
end Go.Proofs.Ytiiiigldpbomkaa
