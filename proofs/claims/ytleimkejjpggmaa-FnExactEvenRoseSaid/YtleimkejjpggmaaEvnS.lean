/- EvenRose: the specification's side. No statement is proved here. -/
import Derived.Test.YtleimkejjpggmaaEvn
namespace Go.Proofs.Ytleimkejjpggmaa
open Go Go.RowKit
set_option maxHeartbeats 8000000 in
set_option maxRecDepth 20000 in
theorem s_EvenRose (c : Int) (s : Nat) (w : World) :
    Calls Try.prog 21 #[.int .i64 c, .float .f32 s] w fun e w' => ∃ (R1 R2 : Option Addr) (c1 c2 g1 g2 : Nat), e = .returned (.tuple #[.agg #[.slice R1 (gLn (evnO c s) (evnX c)).length c1, .slice R2 (gLn (evnO c s) (evnY c s)).length c2], .bool (evnO c s)]) ∧ OwnR2 w' w.heap.size R1 R2 g1 g2 (gLn (evnO c s) (evnX c)) (gLn (evnO c s) (evnY c s)) ∧ Below w.heap.size w w' := by
  obtain ⟨i0, hi, hz0, hz1, hz2⟩ := info_parts f32_info
  obtain ⟨w0, hw0⟩ : ∃ x, x = w.alloc (.cells #[.slice none 0 0, .slice none 0 0] 47) := ⟨_, rfl⟩
  have LR : Hid (BlkL w0 w.heap.size [.slice none 0 0, .slice none 0 0]) := Lib.hid (by rw [hw0]; exact blkL_at w #[.slice none 0 0, .slice none 0 0] _ rfl)
  have B0 : Hid (Below w.heap.size w w0) := Lib.hid (by rw [hw0]; exact (Below.refl _ _).alloc (Nat.le_refl _) _)
  have Z0 : Hid (w0.heap.size = w.heap.size + 1) := Lib.hid (by rw [hw0]; simp)
  go_enter Try.func21, Try.ntmps21
  go_wp2_with fail
  rw [← hw0]
  refine (s_l00In _ _ _ _).mono ?_
  rintro e wq ⟨rfl, hwq⟩
  rw [hwq]
  clear hwq hw0
  rw [show (decide ((1 : Int) ≤ c) && decide (c ≤ 16)) = decide (1 ≤ c ∧ c ≤ 16) by simp]
  by_cases hc : 1 ≤ c ∧ c ≤ 16
  · rw [decide_eq_true hc]
    have HY := Lib.hid (evnO_yes (s := s) hc)
    obtain ⟨n, rfl⟩ : ∃ n : Nat, c = n := ⟨c.toNat, by omega⟩
    have h1 : 1 ≤ n := by omega
    have h2 : n ≤ 16 := by omega
    clear hc
    obtain ⟨q1, q2⟩ := evnQ_sure h1 h2
    obtain ⟨q, hq⟩ : ∃ q, q = evnQ n := ⟨_, rfl⟩
    rw [← hq] at q1
    have HX : Hid (evnX (n : Int) = List.replicate n q) := Lib.hid (by unfold evnX; rw [hq]; rfl)
    have HW : Hid (evnY (n : Int) s = List.replicate n s) := Lib.hid rfl
    clear hq
    have HF0 : Hid (FR w0 (((w0.alloc (.cells #[] 26)).alloc (.cells #[] 26)).alloc (.cells #[.slice (some ⟨w0.heap.size, 0, none⟩) 0 0, .slice (some ⟨w0.heap.size + 1, 0, none⟩) 0 0] 47)) (w0.heap.size + 2) (.slice (some ⟨w0.heap.size, 0, none⟩) 0 0) (.slice (some ⟨w0.heap.size + 1, 0, none⟩) 0 0) [] []) := Lib.hid (by
      refine ⟨blkL_at ((w0.alloc _).alloc _) #[_, _] _ (by simp), ?_, ?_, ?_, ?_, ?_, (((Below.refl _ _).alloc (Nat.le_refl _) _).alloc (by simp) _).alloc (by simp; omega) _, by omega⟩
      · have h1 := Gr.made w0 w0.heap.size 0 #[] (Nat.le_refl _) (Nat.zero_le _) rfl
        exact (h1.below ((Below.refl _ _).alloc (Nat.le_refl _) _)).below ((Below.refl _ _).alloc (Nat.le_refl _) _)
      · have h1 := Gr.made (w0.alloc (.cells #[] 26)) w0.heap.size 0 #[] (by simp) (Nat.zero_le _) rfl
        rw [show (w0.alloc (.cells #[] 26)).heap.size = w0.heap.size + 1 by simp] at h1
        exact h1.below ((Below.refl _ _).alloc (Nat.le_refl _) _)
      · intro k hk hk'
        have hk : w0.heap.size = k := Option.some.inj hk
        have hk' : w0.heap.size + 1 = k := Option.some.inj hk'
        omega
      · intro hk
        have hk : w0.heap.size = w0.heap.size + 2 := Option.some.inj hk
        omega
      · intro hk
        have hk : w0.heap.size + 1 = w0.heap.size + 2 := Option.some.inj hk
        omega)
    go_wp2
    go_loopw [7] (fun i wr => ∃ (k : Nat) (v v' : Value), k ≤ n ∧ i = .int .i64 k ∧ Hid (FR w0 wr (w0.heap.size + 2) v v' (List.replicate k q) (List.replicate k s))) (fun i _ => n - (intOf i).toNat)
    case atStart => exact ⟨0, _, _, Nat.zero_le _, rfl, HF0⟩
    case round =>
      obtain ⟨k, v, v', hk, rfl, HF⟩ := hrel
      clear HF0
      by_cases hlt : k < n
      · obtain ⟨k0, k1⟩ := HF.out.blk.two
        have f1 := (HF.out.blk.2 0 _ rfl).2
        go_wp2_with (first
          | (at_builtin; refine wpList_append_own_at _ rfl _ _ 22 rfl w0.heap.size 26 i0 (.float .f32 0) 1 4 Try.underlying22 hi hz0 hz1 hz2 rfl (by decide) _ _ _ rfl (HF.out.gx.below ((Below.refl _ _).alloc (Nat.le_refl _) _)) ⟨_, 0, none⟩ 1 1 [.float .f32 q] rfl rfl ?c1 ?c2 ?c3 ?c4 ?c5 ?_)
          | fail)
        case c1 =>
          intro j u hj
          match j, hj with
          | 0, hj => simp at hj; subst hj; exact ((blkL_at _ #[.float .f32 q] _ rfl).2 0 _ rfl).1
        case c2 => intro u hu; simp at hu; subst hu; rfl
        case c3 => simp; unfold maxLen; omega
        case c4 => simp; omega
        case c5 => have := HF.out.below.size; simp; omega
        · intro v2 w7 hown' hgrow _ hat
          clear k0 k1 f1
          have HF2 := Lib.hid (FR.putX (m := 1) (zs := [q]) HF.out rfl (by simpa using hown') hgrow (by simpa using hat))
          obtain ⟨A2, cp2, bb2, rfl, -⟩ := Gr.own HF2.out.gx
          rw [show (List.replicate k q ++ [q]).length = k + 1 by simp] at HF2
          have M := HF.out.midX hgrow
          have p0 := (M.2 0 _ rfl).1
          have q0 := (M.2 0 _ rfl).2
          have p1 := (M.2 1 _ rfl).1
          clear hown' hgrow hat M
          go_wp2_with (first
            | (at_builtin; refine wpList_append_own_at _ rfl _ _ 22 rfl w0.heap.size 26 i0 (.float .f32 0) 1 4 Try.underlying22 hi hz0 hz1 hz2 rfl (by decide) _ _ _ rfl (HF2.out.gy.below ((Below.refl _ _).alloc (Nat.le_refl _) _)) ⟨_, 0, none⟩ 1 1 [.float .f32 s] rfl rfl ?c1 ?c2 ?c3 ?c4 ?c5 ?_)
            | fail)
          case c1 =>
            intro j u hj
            match j, hj with
            | 0, hj => simp at hj; subst hj; exact ((blkL_at (World.setCell w7 _ _) #[.float .f32 s] _ (by simp)).2 0 _ rfl).1
          case c2 => intro u hu; simp at hu; subst hu; rfl
          case c3 => simp; unfold maxLen; omega
          case c4 => simp; omega
          case c5 => have := HF2.out.below.size; simp at this ⊢; omega
          · intro v3 w9 hown' hgrow _ hat
            have HF3 := Lib.hid (FR.putY (m := 1) (zs := [s]) HF2.out rfl (by simpa using hown') hgrow (by simpa using hat))
            obtain ⟨A3, cp3, bb3, rfl, -⟩ := Gr.own HF3.out.gy
            rw [show (List.replicate k s ++ [s]).length = k + 1 by simp] at HF3
            have M := HF2.out.midY hgrow
            have p2 := (M.2 1 _ rfl).1
            have q2' := (M.2 1 _ rfl).2
            clear hown' hgrow hat M p0 q0 p1
            go_wp2
            go_roundw
            case rel =>
              refine ⟨k + 1, .slice A2 (k + 1) cp2, .slice A3 (k + 1) cp3, by omega, by go_num, Lib.hid ?_⟩
              have := HF3.out
              rw [← List.replicate_succ', ← List.replicate_succ'] at this
              exact this
            case measure => simp [intOf]; omega
      · have hkk : k = n := by omega
        subst hkk
        obtain ⟨Av, cv, gv, rfl, hox⟩ := HF.out.gx.own
        obtain ⟨Aw, cw, gw, rfl, hoy⟩ := HF.out.gy.own
        have HOX := Lib.hid hox
        have HOY := Lib.hid hoy
        clear hox hoy
        rw [List.length_replicate, List.length_replicate] at HF
        have f0 := (HF.out.blk.2 0 _ rfl).1
        have f1 := (HF.out.blk.2 1 _ rfl).1
        have LR5 : Hid (BlkL wr w.heap.size [.slice none 0 0, .slice none 0 0]) := Lib.hid (LR.out.below HF.out.below)
        have B5 : Hid (Below w.heap.size w wr) := Lib.hid (below_of B0.out B0.out.size HF.out.below)
        have HRS : Hid (Rs wr Av Aw (List.replicate k q) (List.replicate k s)) := Lib.hid ⟨HOX.out.fl, HOY.out.fl⟩
        have HFW : Hid (FewS (List.replicate k q) (List.replicate k s)) := Lib.hid (by unfold FewS; simp; omega)
        rw [HX.out, HW.out] at HY
        cases v : rosV (List.replicate k q) (List.replicate k s)
        · have HN : Hid (evnO (k : Int) s = false) := Lib.hid (by rw [HY.out, v])
          have HE := Lib.hid (s_GiveR_no Av Aw cv cw (List.replicate k q) (List.replicate k s) wr HRS.out HFW.out v)
          rw [List.length_replicate, List.length_replicate] at HE
          clear v
          go_wp2_with fail
          refine HE.out.mono ?_
          rintro e w6 ⟨rfl, b6⟩
          have B6 : Hid (Below w.heap.size w w6) := Lib.hid (below_of B5.out B5.out.size b6)
          have LR6 : Hid (BlkL w6 w.heap.size [.slice none 0 0, .slice none 0 0]) := Lib.hid (LR5.out.below b6)
          clear b6
          have p0 := (LR6.out.2 0 _ rfl).1
          have q0 := (LR6.out.2 0 _ rfl).2
          have p1 := (LR6.out.2 1 _ rfl).1
          have q1 := (LR6.out.2 1 _ rfl).2
          go_wp2
          refine bodyPost_ret (v := .tuple #[.agg #[.slice none 0 0, .slice none 0 0], .bool false]) ?_ rfl ?_
          · simp [results, Try.results21, go_sem, p0, p1]
          · rw [HN.out]
            exact ⟨none, none, 0, 0, 0, 1, rfl, ⟨.inl rfl, .inl rfl, by decide⟩, ((B6.out).setCell (p := ⟨w.heap.size, 0, none⟩) (Nat.le_refl _) _).setCell (p := ⟨w.heap.size, 1, none⟩) (Nat.le_refl _) _⟩
        · have HN : Hid (evnO (k : Int) s = true) := Lib.hid (by rw [HY.out, v])
          have HE := Lib.hid (s_GiveR_yes Av Aw cv cw (List.replicate k q) (List.replicate k s) wr HRS.out HFW.out v)
          rw [List.length_replicate, List.length_replicate] at HE
          clear v
          go_wp2_with fail
          refine HE.out.mono ?_
          rintro e w6 ⟨rfl, b6⟩
          have B6 : Hid (Below w.heap.size w w6) := Lib.hid (below_of B5.out B5.out.size b6)
          have LR6 : Hid (BlkL w6 w.heap.size [.slice none 0 0, .slice none 0 0]) := Lib.hid (LR5.out.below b6)
          have HX6 := Lib.hid (HOX.out.below b6)
          have HY6 := Lib.hid (HOY.out.below b6)
          clear b6
          have p0 := (LR6.out.2 0 _ rfl).1
          have q0 := (LR6.out.2 0 _ rfl).2
          have p1 := (LR6.out.2 1 _ rfl).1
          have q1 := (LR6.out.2 1 _ rfl).2
          go_wp2
          refine bodyPost_ret (v := .tuple #[.agg #[.slice Av k cv, .slice Aw k cw], .bool true]) ?_ rfl ?_
          · simp [results, Try.results21, go_sem, p0, p1]
          · rw [HN.out, HX.out, HW.out]
            have z0 := Z0.out
            refine ⟨Av, Aw, cv, cw, gv, gw, ?_, ?_, ((B6.out).setCell (p := ⟨w.heap.size, 0, none⟩) (Nat.le_refl _) _).setCell (p := ⟨w.heap.size, 1, none⟩) (Nat.le_refl _) _⟩
            · show Ending.returned _ = Ending.returned (.tuple #[.agg #[.slice _ (List.replicate k q).length _, .slice _ (List.replicate k s).length _], _])
              rw [List.length_replicate, List.length_replicate]
            · rcases HX6.out with h0 | ⟨rfl, hx1, hx2⟩
              · have := congrArg List.length h0; simp at this; omega
              · rcases HY6.out with h0 | ⟨rfl, hy1, hy2⟩
                · have := congrArg List.length h0; simp at this; omega
                · have hne : gv ≠ gw := fun e => HF.out.nv gv rfl (by rw [e]; rfl)
                  exact ⟨Own.o (((hx2).setCell (p := ⟨w.heap.size, 0, none⟩) (by show w.heap.size ≠ _; omega) _).setCell (p := ⟨w.heap.size, 1, none⟩) (by show w.heap.size ≠ _; omega) _) (by omega), Own.o (((hy2).setCell (p := ⟨w.heap.size, 0, none⟩) (by show w.heap.size ≠ _; omega) _).setCell (p := ⟨w.heap.size, 1, none⟩) (by show w.heap.size ≠ _; omega) _) (by omega), hne⟩
  · rw [decide_eq_false hc]
    have HN := Lib.hid (evnO_no (s := s) hc)
    clear hc
    have p0 := (LR.out.2 0 _ rfl).1
    have q0 := (LR.out.2 0 _ rfl).2
    have p1 := (LR.out.2 1 _ rfl).1
    have q1 := (LR.out.2 1 _ rfl).2
    go_wp2
    refine bodyPost_ret (v := .tuple #[.agg #[.slice none 0 0, .slice none 0 0], .bool false]) ?_ rfl ?_
    · simp [results, Try.results21, go_sem, p0, p1]
    · rw [HN.out]
      exact ⟨none, none, 0, 0, 0, 1, rfl, ⟨.inl rfl, .inl rfl, by decide⟩, ((B0.out).setCell (p := ⟨w.heap.size, 0, none⟩) (Nat.le_refl _) _).setCell (p := ⟨w.heap.size, 1, none⟩) (Nat.le_refl _) _⟩
end Go.Proofs.Ytleimkejjpggmaa
