/- NormRose: the specification's side. No statement is proved here. -/
import Derived.Test.YtleimkejjpggmaaRosN
import Derived.Deep.AppendLies
import Derived.Deep.RegionLaw
namespace Go.Proofs.Ytleimkejjpggmaa
open Go Go.RowKit
set_option maxHeartbeats 8000000 in
set_option maxRecDepth 20000 in
theorem s_NormRose (A L : Option Addr) (ca cl : Nat) (a l : List Nat) (w : World) (h : Rs w A L a l) (hn : FewS a l) :
    Calls Try.prog 27 #[.agg #[.slice A a.length ca, .slice L l.length cl]] w fun e w' => ∃ (R1 R2 : Option Addr) (c1 c2 g1 g2 : Nat), e = .returned (.tuple #[.agg #[.slice R1 (gLn (nrmO a l) (nrmA a)).length c1, .slice R2 (gLn (nrmO a l) l).length c2], .bool (nrmO a l)]) ∧ OwnR2 w' w.heap.size R1 R2 g1 g2 (gLn (nrmO a l) (nrmA a)) (gLn (nrmO a l) l) ∧ Below w.heap.size w w' := by
  obtain ⟨i0, hi, hz0, hz1, hz2⟩ := info_parts f32_info
  have HP := Lib.hid h; clear h
  have HNF := Lib.hid hn
  obtain ⟨w0, hw0⟩ : ∃ x, x = (w.alloc (.cells #[.slice A a.length ca, .slice L l.length cl] 47)).alloc (.cells #[.slice none 0 0, .slice none 0 0] 47) := ⟨_, rfl⟩
  have K0 : Hid (BlkL w0 w.heap.size [.slice A a.length ca, .slice L l.length cl]) := Lib.hid (by rw [hw0]; exact (blkL_at w #[.slice A a.length ca, .slice L l.length cl] _ rfl).alloc _)
  have KR : Hid (BlkL w0 (w.heap.size + 1) [.slice none 0 0, .slice none 0 0]) := Lib.hid (by rw [hw0]; exact blkL_at (w.alloc _) #[.slice none 0 0, .slice none 0 0] _ (by simp))
  have B0 : Hid (Below w.heap.size w w0) := Lib.hid (by rw [hw0]; exact ((Below.refl _ _).alloc (Nat.le_refl _) _).alloc (by simp) _)
  have Z0 : Hid (w0.heap.size = w.heap.size + 2) := Lib.hid (by rw [hw0]; simp)
  go_enter Try.func27, Try.ntmps27
  go_wp2_with fail
  rw [← hw0]
  clear hw0
  refine (s_l04Rose A L ca cl a l _ _ (HP.out.below B0.out) hn K0.out).mono ?_
  rintro e w1 ⟨rfl, n1, hw⟩
  have b1 : Below w0.heap.size w0 w1 := by rw [hw]; exact below_draws (Below.refl _ _) _
  have L0 : Hid (BlkL w1 w.heap.size [.slice A a.length ca, .slice L l.length cl]) := Lib.hid (K0.out.below b1)
  have LR : Hid (BlkL w1 (w.heap.size + 1) [.slice none 0 0, .slice none 0 0]) := Lib.hid (KR.out.below b1)
  have B1 : Hid (Below w.heap.size w w1) := Lib.hid (below_of B0.out B0.out.size b1)
  have Z1 : Hid (w.heap.size + 2 ≤ w1.heap.size) := Lib.hid (by have := b1.size; have := Z0.out; omega)
  clear b1 hw K0 KR
  cases v : rosV a l
  · have HN := Lib.hid (nrmO_v v); clear v
    have p0 := (LR.out.2 0 _ rfl).1
    have q0 := (LR.out.2 0 _ rfl).2
    have p1 := (LR.out.2 1 _ rfl).1
    have q1 := (LR.out.2 1 _ rfl).2
    go_wp2
    refine bodyPost_ret (v := .tuple #[.agg #[.slice none 0 0, .slice none 0 0], .bool false]) ?_ rfl ?_
    · simp [results, Try.results27, go_sem, p0, p1]
    · rw [HN.out]
      exact ⟨none, none, 0, 0, 0, 1, rfl, ⟨.inl rfl, .inl rfl, by decide⟩, ((B1.out).setCell (p := ⟨w.heap.size + 1, 0, none⟩) (by show w.heap.size ≤ w.heap.size + 1; omega) _).setCell (p := ⟨w.heap.size + 1, 1, none⟩) (by show w.heap.size ≤ w.heap.size + 1; omega) _⟩
  · have V := Lib.hid v
    obtain ⟨s1, s2, s3⟩ := rosV_sized v
    have S3 := Lib.hid s3
    clear v s3
    go_wp2_with fail
    refine (s_l04Shares A L ca cl a l _ _ (HP.out.below B1.out) hn L0.out).mono ?_
    rintro e w2 ⟨r, n2, rfl, hr, hw⟩
    have b2 : Below w1.heap.size w1 w2 := by rw [hw]; exact below_draws (Below.refl _ _) _
    have L2 : Hid (BlkL w2 w.heap.size [.slice A a.length ca, .slice L l.length cl]) := Lib.hid (L0.out.below b2)
    have LR2 : Hid (BlkL w2 (w.heap.size + 1) [.slice none 0 0, .slice none 0 0]) := Lib.hid (LR.out.below b2)
    have B2 : Hid (Below w.heap.size w w2) := Lib.hid (below_of B1.out B1.out.size b2)
    have Z2 : Hid (w.heap.size + 2 ≤ w2.heap.size) := Lib.hid (by have := b2.size; have := Z1.out; omega)
    clear b2 hw L0 LR B0 Z0
    obtain rfl := sum_is V.out hr
    clear hr
    obtain ⟨S, hS⟩ : ∃ S, S = sumK a a.length := ⟨_, rfl⟩
    rw [← hS]
    have HS := Lib.hid hS; clear hS
    cases g : gtr32 S 0
    · have HN : Hid (nrmO a l = false) := Lib.hid (nrmO_g (by rw [← HS.out, g]))
      unfold gtr32 at g
      have p0 := (LR2.out.2 0 _ rfl).1
      have q0 := (LR2.out.2 0 _ rfl).2
      have p1 := (LR2.out.2 1 _ rfl).1
      have q1 := (LR2.out.2 1 _ rfl).2
      go_wp2
      refine bodyPost_ret (v := .tuple #[.agg #[.slice none 0 0, .slice none 0 0], .bool false]) ?_ rfl ?_
      · simp [results, Try.results27, go_sem, p0, p1]
      · rw [HN.out]
        exact ⟨none, none, 0, 0, 0, 1, rfl, ⟨.inl rfl, .inl rfl, by decide⟩, ((B2.out).setCell (p := ⟨w.heap.size + 1, 0, none⟩) (by show w.heap.size ≤ w.heap.size + 1; omega) _).setCell (p := ⟨w.heap.size + 1, 1, none⟩) (by show w.heap.size ≤ w.heap.size + 1; omega) _⟩
    · have HG := Lib.hid g
      unfold gtr32 at g
      have k1 := (((L2.out.alloc (.cells #[] 26)).alloc (.cells #[] 26)).2 1 _ rfl).1
      have HGr : Hid (Gr ((w2.alloc (.cells #[] 26)).alloc (.cells #[] 26)) w2.heap.size (.slice (some ⟨w2.heap.size + 1, 0, none⟩) 0 0) []) := Lib.hid (by
        have := Gr.made (w2.alloc (.cells #[] 26)) w2.heap.size 0 #[] (by simp) (Nat.zero_le _) rfl
        simpa using this)
      have HFL := Lib.hid (HP.out.2.below B2.out)
      obtain ⟨b, off, hL, -, -⟩ := HFL.out.at_ (show 0 < l.length by have := S3.out; omega)
      subst hL
      go_wp2_with (first
        | (at_builtin; refine wpList_append_own_at _ rfl _ _ 22 rfl w2.heap.size 26 i0 (.float .f32 0) 1 4 Try.underlying22 hi hz0 hz1 hz2 rfl (by decide) _ _ _ rfl HGr.out ⟨b, off, none⟩ l.length cl (l.map (Value.float .f32)) rfl ?c1 ?c2 ?c3 ?c4 ?c5 ?c6 ?_)
        | fail)
      case c1 => simp
      case c2 => exact (HFL.out.below (((Below.refl _ _).alloc (Nat.le_refl _) _).alloc (by simp) _)).newsR
      case c3 => exact oneFR l
      case c4 => have := HNF.out; unfold FewS at this; unfold maxLen; simp; omega
      case c5 => have := HNF.out; unfold FewS at this; simp; omega
      case c6 => simp; omega
      · intro v' w7 hown' hgrow _ hat
        have gy : Gr w7 w2.heap.size v' l := by unfold Gr; simpa using hown'
        obtain ⟨A2, c2, g2, rfl, ho2⟩ := gy.own
        have gx : Gr w7 w2.heap.size (.slice (some ⟨w2.heap.size, 0, none⟩) 0 0) [] := by
          have h1 := Gr.made w2 w2.heap.size 0 #[] (Nat.le_refl _) (Nat.zero_le _) rfl
          have h2 := h1.below ((Below.refl _ _).alloc (Nat.le_refl _) (.cells #[] 26))
          refine h2.keptR hgrow (.inr ?_)
          intro hh
          have h3 : w2.heap.size = w2.heap.size + 1 := Option.some.inj hh
          omega
        have hz7 : w2.heap.size + 2 ≤ w7.heap.size := by have := hgrow.size; simpa using this
        have b7 : Below w2.heap.size w2 w7 := (((Below.refl _ _).alloc (Nat.le_refl _) _).alloc (by simp) _).grown hgrow (by simp; omega) (fun k hk => by have hk : w2.heap.size + 1 = k := Option.some.inj hk; omega)
        have HF0 : Hid (FR w2 (w7.alloc (.cells #[.slice (some ⟨w2.heap.size, 0, none⟩) 0 0, .slice A2 l.length c2] 47)) w7.heap.size (.slice (some ⟨w2.heap.size, 0, none⟩) 0 0) (.slice A2 l.length c2) [] l) := Lib.hid (by
          have bA : Below w7.heap.size w7 (w7.alloc (.cells #[.slice (some ⟨w2.heap.size, 0, none⟩) 0 0, .slice A2 l.length c2] 47)) := (Below.refl _ _).alloc (Nat.le_refl _) _
          refine ⟨blkL_at w7 #[_, _] _ rfl, gx.below bA, gy.below bA, ?_, ?_, ?_, below_of b7 b7.size bA, by omega⟩
          · intro k hk hk'
            have hk : w2.heap.size = k := Option.some.inj hk
            rcases hat with e | e
            · rw [e] at hk'
              have hk' : w2.heap.size + 1 = k := Option.some.inj hk'
              omega
            · rw [e] at hk'
              have hk' : w2.heap.size + 1 + 1 = k := by simpa using Option.some.inj hk'
              omega
          · intro hk
            have hk : w2.heap.size = w7.heap.size := Option.some.inj hk
            omega
          · intro hk; have := (gy.ltR hk).2; omega)
        have ZB : Hid (w2.heap.size + 2 ≤ w7.heap.size) := Lib.hid (by omega)
        clear hown' hgrow hat gy gx b7 ho2 HGr k1
        go_wp2
        go_loopw [6] (fun i wr => ∃ (k : Nat) (v : Value) (xs : List Nat), k ≤ a.length ∧ i = .int .i64 k ∧ Hid (FR w2 wr w7.heap.size v (.slice A2 l.length c2) xs l) ∧ Hid (xs.length = k) ∧ Hid (∀ j, j < k → xs.getD j 0 = nrmQ a j)) (fun i _ => a.length - (intOf i).toNat)
        case atStart => exact ⟨0, _, [], Nat.zero_le _, rfl, HF0, rfl, Lib.hid (fun j hj => absurd hj (Nat.not_lt_zero j))⟩
        case round =>
          obtain ⟨k, v, xs, hk, rfl, HF, HL, HQ⟩ := hrel
          clear HF0 hz7
          have LW := L2.out.below HF.out.below
          by_cases hlt : k < a.length
          · obtain ⟨b', off', rfl, hb', hc'⟩ := ((HP.out.1.below B2.out).below HF.out.below).at_ hlt
            have hb' : b' < wr.heap.size := hb'
            obtain ⟨q1, q2⟩ := nrm_sure V.out (by rw [← HS.out]; exact HG.out) hlt
            rw [← HS.out] at q1 q2
            have HQK : Hid (nrmQ a k = nrmQ a k) := rfl
            obtain ⟨q, hq⟩ : ∃ x, x = nrmQ a k := ⟨_, rfl⟩
            rw [← hq] at q1
            have HQE := Lib.hid hq; clear hq
            generalize a.getD k 0 = x at hc' q1 q2
            obtain ⟨Av, cv, gv, rfl, -⟩ := HF.out.gx.own
            have k0 := (LW.2 0 _ rfl).1
            have f0 := (HF.out.blk.2 0 _ rfl).1
            have f1 := (HF.out.blk.2 0 _ rfl).2
            have hne1 : w7.heap.size ≠ wr.heap.size := by have := HF.out.blk.1; omega
            have hne2 : w.heap.size ≠ wr.heap.size := by have := LW.1; omega
            have hne3 : b' ≠ wr.heap.size := by omega
            have HFA : Hid (∀ o, World.ownsRow ((wr.drewN 1).alloc o) w2.heap.size 26 1 (.slice Av xs.length cv) xs.length (xs.map (Value.float .f32))) := Lib.hid (fun o => (HF.out.draws 1).gx.below ((Below.refl _ _).alloc (Nat.le_refl _) o))
            have hl63 : Hid (xs.length + 1 ≤ maxLen) := Lib.hid (by have := HL.out; unfold maxLen; omega)
            have hl47 : Hid ((xs.length + 1) * 4 ≤ 140737488355328) := Lib.hid (by have := HL.out; omega)
            have hlb : Hid (w2.heap.size ≤ wr.heap.size + 1) := Lib.hid (by have := HF.out.below.size; omega)
            have HPX := Lib.hid (fun (w9 : World) (g cap : Nat) (ho : w9.ownsRow w2.heap.size 26 1 (.slice (some ⟨g, 0, none⟩) (xs.length + 1) cap) (xs.length + 1) (xs.map (Value.float .f32) ++ [Value.float .f32 q])) (hg : ((wr.drewN 1).alloc (.cells #[.float .f32 q] 26)).grownBy w9 (Value.slice Av xs.length cv).ownBlock) (hat : (Value.slice Av xs.length cv).ownBlock = some g ∨ g = wr.heap.size + 1) =>
              FR.putX (m := 1) (zs := [q]) (HF.out.draws 1) rfl (by simpa using ho) hg (by
                rcases hat with e | e
                · exact .inl e.symm
                · right; rw [e]; simp; rfl))
            have HMX := Lib.hid (fun (w9 : World) (hg : ((wr.drewN 1).alloc (.cells #[.float .f32 q] 26)).grownBy w9 (Value.slice Av xs.length cv).ownBlock) => (HF.out.draws 1).midX hg)
            have e0 : ((wr.alloc (.cells #[.float .f32 q] 26)).drew).cell? ⟨w7.heap.size, 0, none⟩ = some (.slice Av xs.length cv) := ((HF.out.blk.alloc _).2 0 _ rfl).1
            clear LW hb'
            go_wp2
            go_region_law (refine step_append_lies _ rfl (.tmp 29) (.tmp 37) 22 rfl w2.heap.size 26 i0 (.float .f32 0) 1 4 Try.underlying22 hi hz0 hz1 hz2 rfl (by decide) (.slice Av xs.length cv) xs.length (xs.map (Value.float .f32)) (by simp [Act.eval, Act.put]) (HFA.out _) ⟨wr.heap.size, 0, none⟩ 1 1 [.float .f32 q] (by simp [Act.eval, Act.put]) rfl (cell_one_new _ _ _) (by intro u hu; simp at hu; subst hu; rfl) (by decide) hl63.out hl47.out (by have := hlb.out; simp; omega) (wr.heap.size + 1) (by simp) ?_; intro g cap w9 hown' hgrow hat hlt9; have HF2 := Lib.hid (HPX.out w9 g cap hown' hgrow hat); have p0 := ((HMX.out w9 hgrow).2 0 _ rfl).1; have q0 := ((HMX.out w9 hgrow).2 0 _ rfl).2; clear hown' hgrow hat)
            all_goals
              clear f0 f1 e0 hc' q1 q2
              go_wp2
              go_roundw
              case rel =>
                refine ⟨k + 1, _, xs ++ [q], by omega, by go_num, HF2, Lib.hid (by simp [HL.out]), Lib.hid (fun j hj => ?_)⟩
                rw [getD_snoc _ _ _ (by rw [HL.out]; exact hj), HL.out]
                by_cases e : j = k
                · rw [if_pos e, HQE.out, e]
                · rw [if_neg e]; exact HQ.out j (by omega)
              case measure => simp [intOf]; omega
          · have hkk : k = a.length := by omega
            subst hkk
            obtain rfl : xs = nrmA a := nrm_list HL.out HQ.out
            have HL6 : Hid ((nrmA a).length = a.length) := Lib.hid (nrmA_length a)
            obtain ⟨Av, cv, gv, rfl, hox⟩ := HF.out.gx.own
            obtain ⟨A3, c3, g3, h3, hoy⟩ := HF.out.gy.own
            obtain ⟨rfl, -, rfl⟩ : A2 = A3 ∧ l.length = l.length ∧ c2 = c3 := by injection h3 with e1 e2 e3; exact ⟨e1, rfl, e3⟩
            clear h3
            have HX := Lib.hid hox
            have HY := Lib.hid hoy
            clear hox hoy
            have f0 := (HF.out.blk.2 0 _ rfl).1
            have f1 := (HF.out.blk.2 1 _ rfl).1
            rw [HL6.out] at f0
            have LR5 : Hid (BlkL wr (w.heap.size + 1) [.slice none 0 0, .slice none 0 0]) := Lib.hid (LR2.out.below HF.out.below)
            have B5 : Hid (Below w.heap.size w wr) := Lib.hid (below_of B2.out B2.out.size HF.out.below)
            have HRS : Hid (Rs wr Av A2 (nrmA a) l) := Lib.hid ⟨HX.out.fl, HY.out.fl⟩
            have HFW : Hid (FewS (nrmA a) l) := Lib.hid (by have := S3.out; unfold FewS; rw [HL6.out]; omega)
            have HYN : Hid (nrmO a l = rosV (nrmA a) l) := Lib.hid (nrmO_yes V.out (by rw [← HS.out]; exact HG.out))
            have k0 := (LW.2 0 _ rfl).1
            clear LW
            cases v : rosV (nrmA a) l
            · have HN : Hid (nrmO a l = false) := Lib.hid (by rw [HYN.out, v])
              have HE := Lib.hid (s_GiveR_no Av A2 cv c2 (nrmA a) l wr HRS.out HFW.out v)
              rw [HL6.out] at HE
              clear v
              go_wp2_with fail
              refine HE.out.mono ?_
              rintro e w6 ⟨rfl, b6⟩
              have B6 : Hid (Below w.heap.size w w6) := Lib.hid (below_of B5.out B5.out.size b6)
              have LR6 : Hid (BlkL w6 (w.heap.size + 1) [.slice none 0 0, .slice none 0 0]) := Lib.hid (LR5.out.below b6)
              clear b6
              have p0 := (LR6.out.2 0 _ rfl).1
              have q0 := (LR6.out.2 0 _ rfl).2
              have p1 := (LR6.out.2 1 _ rfl).1
              have q1 := (LR6.out.2 1 _ rfl).2
              go_wp2
              refine bodyPost_ret (v := .tuple #[.agg #[.slice none 0 0, .slice none 0 0], .bool false]) ?_ rfl ?_
              · simp [results, Try.results27, go_sem, p0, p1]
              · rw [HN.out]
                exact ⟨none, none, 0, 0, 0, 1, rfl, ⟨.inl rfl, .inl rfl, by decide⟩, ((B6.out).setCell (p := ⟨w.heap.size + 1, 0, none⟩) (by show w.heap.size ≤ w.heap.size + 1; omega) _).setCell (p := ⟨w.heap.size + 1, 1, none⟩) (by show w.heap.size ≤ w.heap.size + 1; omega) _⟩
            · have HN : Hid (nrmO a l = true) := Lib.hid (by rw [HYN.out, v])
              have HE := Lib.hid (s_GiveR_yes Av A2 cv c2 (nrmA a) l wr HRS.out HFW.out v)
              rw [HL6.out] at HE
              clear v
              go_wp2_with fail
              refine HE.out.mono ?_
              rintro e w6 ⟨rfl, b6⟩
              have B6 : Hid (Below w.heap.size w w6) := Lib.hid (below_of B5.out B5.out.size b6)
              have LR6 : Hid (BlkL w6 (w.heap.size + 1) [.slice none 0 0, .slice none 0 0]) := Lib.hid (LR5.out.below b6)
              have HX6 := Lib.hid (HX.out.below b6)
              have HY6 := Lib.hid (HY.out.below b6)
              clear b6
              have p0 := (LR6.out.2 0 _ rfl).1
              have q0 := (LR6.out.2 0 _ rfl).2
              have p1 := (LR6.out.2 1 _ rfl).1
              have q1 := (LR6.out.2 1 _ rfl).2
              go_wp2
              refine bodyPost_ret (v := .tuple #[.agg #[.slice Av a.length cv, .slice A2 l.length c2], .bool true]) ?_ rfl ?_
              · simp [results, Try.results27, go_sem, p0, p1]
              · rw [HN.out]
                refine ⟨Av, A2, cv, c2, gv, g3, ?_, ?_, ((B6.out).setCell (p := ⟨w.heap.size + 1, 0, none⟩) (by show w.heap.size ≤ w.heap.size + 1; omega) _).setCell (p := ⟨w.heap.size + 1, 1, none⟩) (by show w.heap.size ≤ w.heap.size + 1; omega) _⟩
                · show Ending.returned _ = Ending.returned (.tuple #[.agg #[.slice _ (nrmA a).length _, .slice _ l.length _], _])
                  rw [HL6.out]
                · have z2 := Z2.out
                  have hl := S3.out
                  have hn6 := HL6.out
                  rcases HX6.out with h0 | ⟨rfl, hx1, hx2⟩
                  · exfalso; rw [h0] at hn6; simp at hn6; omega
                  · rcases HY6.out with h0 | ⟨rfl, hy1, hy2⟩
                    · exfalso; rw [h0] at hl; simp at hl; omega
                    · have hne : gv ≠ g3 := fun e => HF.out.nv gv rfl (by rw [e]; rfl)
                      exact ⟨Own.o ((hx2.setCell (p := ⟨w.heap.size + 1, 0, none⟩) (by show w.heap.size + 1 ≠ _; omega) _).setCell (p := ⟨w.heap.size + 1, 1, none⟩) (by show w.heap.size + 1 ≠ _; omega) _) (by omega), Own.o ((hy2.setCell (p := ⟨w.heap.size + 1, 0, none⟩) (by show w.heap.size + 1 ≠ _; omega) _).setCell (p := ⟨w.heap.size + 1, 1, none⟩) (by show w.heap.size + 1 ≠ _; omega) _) (by omega), hne⟩
end Go.Proofs.Ytleimkejjpggmaa
