/- Farms with other places: the specification's side. No statement is proved here. -/
import Derived.Test.YtiiiigldpbomkaaPlaM
namespace Go.Proofs.Ytiiiigldpbomkaa
open Go Go.RowKit
theorem Own.putF {w : World} {B k x : Nat} {xs : List Nat} (h : Own w B xs) (hk : k < xs.length) : Own (w.setCell ⟨B, k, none⟩ (.float .f32 x)) B (xs.set k x) := by
  refine ⟨by simpa [World.setCell] using h.1, fun j hj => ?_⟩
  rw [List.length_set] at hj
  obtain ⟨h1, h2⟩ := h.2 j hj
  refine ⟨?_, by rw [World.frozen?_setCell]; exact h2⟩
  by_cases e : j = k
  · subst e
    rw [World.cell?_setCell_same (h := h1)]
    simp [List.getD, hj]
  · rw [World.cell?_setCell_other (h := by intro hh; simp only [Addr.mk.injEq] at hh; omega), h1]
    simp [List.getD, List.getElem?_set_ne (Ne.symm e)]
theorem Gr.own1 {w : World} {B0 b cap n : Nat} {xs : List Nat} (h : Gr w B0 (.slice (some ⟨b, 0, none⟩) n cap) xs) (hx : xs ≠ []) : B0 ≤ b ∧ Own w b xs := by
  obtain ⟨b', c', e, h1, h2⟩ := h.ofOwn hx
  cases e
  exact ⟨h1, h2⟩
set_option maxHeartbeats 4000000 in
theorem s_l06Has (X Y : Option Addr) (cx cy : Nat) (fx fy : List Nat) (fr fd fs : Nat) (i : Int) (B : Nat) (w : World) (h : Rs w X Y fx fy) (hn : FewS fx fy) (hk : BlkL w B [.slice X fx.length cx, .slice Y fy.length cy, .float .f32 fr, .float .f32 fd, .float .f32 fs]) :
    Calls Try.prog 133 #[.pointer (some ⟨B, 0, none⟩), .int .i64 i] w fun e w' => e = .returned (.bool (frmV fx fy fr fd fs && hasF fx.length i)) ∧ ∃ n, w' = w.drewN n := by
  have hn' := hn
  unfold FewS at hn'
  have HK := Lib.hid hk
  go_enter Try.func133, Try.ntmps133
  go_wp2_with fail
  refine (s_l06Is X Y cx cy fx fy fr fd fs B _ h hn hk).mono ?_
  rintro e w1 ⟨rfl, n1, rfl⟩
  clear hk
  cases v : frmV fx fy fr fd fs
  · go_wp2
    go_ret
    exact ⟨by rw [v]; rfl, n1, rfl⟩
  · have V := Lib.hid v
    have k0 := ((HK.out.draws n1).2 0 _ rfl).1
    have hz := (frmV_sized v).1
    have e1 : IntKind.i64.wrap ((fx.length : Int) - 1) = (fx.length : Int) - 1 := IntWalk.i64_in _ (by omega)
    clear v
    go_wp2_with fail
    refine (s_l00In _ _ _ _).mono ?_
    rintro e w2 ⟨rfl, rfl⟩
    go_wp2
    go_ret
    exact ⟨by unfold hasF; rw [V.out, Bool.true_and, Bool.decide_and]; exact congrArg (fun z => Ending.returned (.bool (decide (0 ≤ i) && z))) (decide_eq_decide.2 (by omega)), n1, rfl⟩
set_option maxHeartbeats 16000000 in
set_option maxRecDepth 100000 in
theorem s_AddPlace (X Y : Option Addr) (cx cy : Nat) (fx fy : List Nat) (fr fd fs : Nat) (x y : Nat) (w : World) (h : Rs w X Y fx fy) (hn : FewS fx fy) :
    Calls Try.prog 50 #[.agg #[.slice X fx.length cx, .slice Y fy.length cy, .float .f32 fr, .float .f32 fd, .float .f32 fs], .float .f32 x, .float .f32 y] w fun e w' => ∃ (R1 R2 : Option Addr) (c1 c2 g1 g2 : Nat), e = .returned (.tuple #[.agg #[.slice R1 (gL (plcO fx fy fr fd fs true (fx ++ [x]) (fy ++ [y])) (fx ++ [x])).length c1, .slice R2 (gL (plcO fx fy fr fd fs true (fx ++ [x]) (fy ++ [y])) (fy ++ [y])).length c2, .float .f32 (gF (plcO fx fy fr fd fs true (fx ++ [x]) (fy ++ [y])) fr), .float .f32 (gF (plcO fx fy fr fd fs true (fx ++ [x]) (fy ++ [y])) fd), .float .f32 (gF (plcO fx fy fr fd fs true (fx ++ [x]) (fy ++ [y])) fs)], .bool (plcO fx fy fr fd fs true (fx ++ [x]) (fy ++ [y]))]) ∧ OwnR2 w' w.heap.size R1 R2 g1 g2 (gL (plcO fx fy fr fd fs true (fx ++ [x]) (fy ++ [y])) (fx ++ [x])) (gL (plcO fx fy fr fd fs true (fx ++ [x]) (fy ++ [y])) (fy ++ [y])) ∧ Below w.heap.size w w' := by
  obtain ⟨i0, hi, hz0, hz1, hz2⟩ := info_parts f32_info
  have HP := Lib.hid h; clear h
  have HON : Hid (frmV fx fy fr fd fs = false → plcO fx fy fr fd fs true (fx ++ [x]) (fy ++ [y]) = false) := Lib.hid plcO_v
  have HOY : Hid (frmV fx fy fr fd fs = true → plcO fx fy fr fd fs true (fx ++ [x]) (fy ++ [y]) = frmV (fx ++ [x]) (fy ++ [y]) fr fd fs) := Lib.hid (fun h => plcO_y h rfl)
  generalize plcO fx fy fr fd fs true (fx ++ [x]) (fy ++ [y]) = O at HON HOY ⊢
  obtain ⟨w0, hw0⟩ : ∃ x, x = (w.alloc (.cells #[.slice X fx.length cx, .slice Y fy.length cy, .float .f32 fr, .float .f32 fd, .float .f32 fs] 79)).alloc (.cells #[.slice none 0 0, .slice none 0 0, .float .f32 0, .float .f32 0, .float .f32 0] 79) := ⟨_, rfl⟩
  have K0 : Hid (BlkL w0 w.heap.size [.slice X fx.length cx, .slice Y fy.length cy, .float .f32 fr, .float .f32 fd, .float .f32 fs]) := Lib.hid (by rw [hw0]; exact (blkL_at w #[.slice X fx.length cx, .slice Y fy.length cy, .float .f32 fr, .float .f32 fd, .float .f32 fs] _ rfl).alloc _)
  have KR : Hid (BlkL w0 (w.heap.size + 1) [.slice none 0 0, .slice none 0 0, .float .f32 0, .float .f32 0, .float .f32 0]) := Lib.hid (by rw [hw0]; exact blkL_at (w.alloc _) #[.slice none 0 0, .slice none 0 0, .float .f32 0, .float .f32 0, .float .f32 0] _ (by simp))
  have B0 : Hid (Below w.heap.size w w0) := Lib.hid (by rw [hw0]; exact ((Below.refl _ _).alloc (Nat.le_refl _) _).alloc (by simp) _)
  have Z0 : Hid (w0.heap.size = w.heap.size + 2) := Lib.hid (by rw [hw0]; simp)
  go_enter Try.func50, Try.ntmps50
  go_wp2_with fail
  rw [← hw0]
  clear hw0
  refine (s_l06Is X Y cx cy fx fy fr fd fs w.heap.size _ ⟨HP.out.1.below B0.out, HP.out.2.below B0.out⟩ hn K0.out).mono ?_
  rintro e w1 ⟨rfl, n1, hw⟩
  have b1 : Below w0.heap.size w0 w1 := by rw [hw]; exact below_draws (Below.refl _ _) _
  have L0 : Hid (BlkL w1 w.heap.size [.slice X fx.length cx, .slice Y fy.length cy, .float .f32 fr, .float .f32 fd, .float .f32 fs]) := Lib.hid (K0.out.below b1)
  have LR : Hid (BlkL w1 (w.heap.size + 1) [.slice none 0 0, .slice none 0 0, .float .f32 0, .float .f32 0, .float .f32 0]) := Lib.hid (KR.out.below b1)
  have B1 : Hid (Below w.heap.size w w1) := Lib.hid (below_of B0.out B0.out.size b1)
  have Z1 : Hid (w.heap.size + 2 ≤ w1.heap.size) := Lib.hid (by have := b1.size; have := Z0.out; omega)
  clear b1 hw K0 KR B0 Z0
  cases v0 : frmV fx fy fr fd fs
  · have HN := Lib.hid (HON.out v0)
    clear v0
    have p0 := (LR.out.2 0 _ rfl).1
    have q0 := (LR.out.2 0 _ rfl).2
    have p1 := (LR.out.2 1 _ rfl).1
    have q1 := (LR.out.2 1 _ rfl).2
    have p2 := (LR.out.2 2 _ rfl).1
    have q2 := (LR.out.2 2 _ rfl).2
    have p3 := (LR.out.2 3 _ rfl).1
    have q3 := (LR.out.2 3 _ rfl).2
    have p4 := (LR.out.2 4 _ rfl).1
    have q4 := (LR.out.2 4 _ rfl).2
    go_wp2
    refine bodyPost_ret (v := .tuple #[.agg #[.slice none 0 0, .slice none 0 0, .float .f32 0, .float .f32 0, .float .f32 0], .bool false]) ?_ rfl ?_
    · simp [results, Try.results50, go_sem, p0, p1, p2, p3, p4]
    · rw [HN.out]
      exact ⟨none, none, 0, 0, 0, 1, rfl, ⟨.inl rfl, .inl rfl, by decide⟩, (((((B1.out).setCell (p := ⟨w.heap.size + 1, 0, none⟩) (by show w.heap.size ≤ w.heap.size + 1; omega) _).setCell (p := ⟨w.heap.size + 1, 1, none⟩) (by show w.heap.size ≤ w.heap.size + 1; omega) _).setCell (p := ⟨w.heap.size + 1, 2, none⟩) (by show w.heap.size ≤ w.heap.size + 1; omega) _).setCell (p := ⟨w.heap.size + 1, 3, none⟩) (by show w.heap.size ≤ w.heap.size + 1; omega) _).setCell (p := ⟨w.heap.size + 1, 4, none⟩) (by show w.heap.size ≤ w.heap.size + 1; omega) _⟩
  · obtain ⟨hx, hx2, hy2⟩ := frmV_sized v0
    have hy : 1 ≤ fy.length := by omega
    have hy12 : fy.length ≤ 12 := by omega
    clear hy2
    have HO := Lib.hid (HOY.out v0)
    clear v0 HON HOY
    go_wp2_with fail
    refine (s_l06Own X Y cx cy fx fy fr fd fs w.heap.size _ ⟨HP.out.1.below B1.out, HP.out.2.below B1.out⟩ hn hx hy L0.out).mono ?_
    rintro e w2 ⟨v, v', rfl, gx, gy, nv, b2⟩
    obtain ⟨bx, cp1, rfl, lx, ox⟩ := gx.ofOwn (by intro e; rw [e] at hx; simp at hx)
    obtain ⟨by', cp2, rfl, ly, oy⟩ := gy.ofOwn (by intro e; rw [e] at hy; simp at hy)
    have HF : Hid (FG w1 (w2.alloc (.cells #[.slice (some ⟨bx, 0, none⟩) fx.length cp1, .slice (some ⟨by', 0, none⟩) fy.length cp2, .float .f32 fr, .float .f32 fd, .float .f32 fs] 79)) w2.heap.size (.slice (some ⟨bx, 0, none⟩) fx.length cp1) (.slice (some ⟨by', 0, none⟩) fy.length cp2) fr fd fs fx fy) := Lib.hid (by
      have ba := (Below.refl w2.heap.size w2).alloc (Nat.le_refl _) (.cells #[.slice (some ⟨bx, 0, none⟩) fx.length cp1, .slice (some ⟨by', 0, none⟩) fy.length cp2, .float .f32 fr, .float .f32 fd, .float .f32 fs] 79)
      refine ⟨blkL_at w2 #[_, _, _, _, _] _ rfl, gx.below ba, gy.below ba, nv, ?_, ?_, below_of b2 b2.size ba, b2.size⟩
      · intro e; have := (gx.lt' e).2; omega
      · intro e; have := (gy.lt' e).2; omega)
    have B2 : Hid (Below w.heap.size w w2) := Lib.hid (below_of B1.out B1.out.size b2)
    clear gx gy nv b2 lx ly ox oy
    obtain ⟨wb, hwb⟩ : ∃ z, z = (w2.alloc (.cells #[.slice (some ⟨bx, 0, none⟩) fx.length cp1, .slice (some ⟨by', 0, none⟩) fy.length cp2, .float .f32 fr, .float .f32 fd, .float .f32 fs] 79)) := ⟨_, rfl⟩
    rw [← hwb] at HF
    go_upto_region 4 with fail
    rw [← hwb]
    clear hwb
    have k0 := (HF.out.blk.2 0 _ rfl).1
    have f0 := (HF.out.blk.2 0 _ rfl).2
    go_wp2_with (first
      | (at_builtin; refine wpList_append_own_at _ rfl _ _ 22 rfl w1.heap.size 25 i0 (.float .f32 0) 1 4 Try.underlying22 hi hz0 hz1 hz2 rfl (by decide) _ _ _ rfl (HF.out.alloc _).gx ⟨_, 0, none⟩ 1 1 [.float .f32 x] rfl rfl ?c1 ?c2 ?c3 ?c4 ?c5 ?_)
      | fail)
    case c1 =>
      intro j u hj
      match j, hj with
      | 0, hj => simp at hj; subst hj; exact ((blkL_at _ #[.float .f32 x] _ rfl).2 0 _ rfl).1
    case c2 => intro u hu; simp at hu; subst hu; rfl
    case c3 => unfold maxLen; omega
    case c4 => first | omega | (simp; omega)
    case c5 => have := HF.out.below.size; simp; omega
    · intro v2 w7 hown' hgrow _ hat
      clear k0 f0
      have HF2 := Lib.hid (FG.putX (m := 1) (zs := [x]) HF.out rfl (by simpa using hown') hgrow (by simpa using hat))
      have M := HF.out.midX hgrow
      have p0 := (M.2 0 _ rfl).1
      have q0 := (M.2 0 _ rfl).2
      have p1 := (M.2 1 _ rfl).1
      obtain ⟨b2, cx2, rfl, -, -⟩ := HF2.out.gx.ofOwn (by simp)
      rw [show (fx ++ [x]).length = fx.length + 1 by simp] at HF2
      clear hown' hgrow hat M
      go_wp2_with (first
        | (at_builtin; refine wpList_append_own_at _ rfl _ _ 22 rfl w1.heap.size 25 i0 (.float .f32 0) 1 4 Try.underlying22 hi hz0 hz1 hz2 rfl (by decide) _ _ _ rfl (HF2.out.alloc _).gy ⟨_, 0, none⟩ 1 1 [.float .f32 y] rfl rfl ?c1 ?c2 ?c3 ?c4 ?c5 ?_)
        | fail)
      case c1 =>
        intro j u hj
        match j, hj with
        | 0, hj => simp at hj; subst hj; exact ((blkL_at (World.setCell w7 _ _) #[.float .f32 y] _ (by simp)).2 0 _ rfl).1
      case c2 => intro u hu; simp at hu; subst hu; rfl
      case c3 => unfold maxLen; omega
      case c4 => first | omega | (simp; omega)
      case c5 => have := HF2.out.below.size; first | (simp at this ⊢; omega) | (simp at ⊢; omega) | omega
      · intro v3 w9 hown' hgrow _ hat
        have HF3 := Lib.hid (FG.putY (m := 1) (zs := [y]) HF2.out rfl (by simpa using hown') hgrow (by simpa using hat))
        have M := HF2.out.midY hgrow
        have p2 := (M.2 1 _ rfl).1
        have q2 := (M.2 1 _ rfl).2
        obtain ⟨b3, cy2, rfl, -, -⟩ := HF3.out.gy.ofOwn (by simp)
        rw [show (fy ++ [y]).length = fy.length + 1 by simp] at HF3
        clear hown' hgrow hat M p0 q0 p1
        obtain ⟨wr, hwr⟩ : ∃ z, z = World.setCell w9 ⟨w2.heap.size, 1, none⟩ (.slice (some ⟨b3, 0, none⟩) (fy.length + 1) cy2) := ⟨_, rfl⟩
        rw [← hwr] at HF3
        go_upto_region 6 with fail
        rw [← hwr]
        clear hwr p2 q2
        obtain ⟨lx, ox⟩ := HF3.out.gx.own1 (by simp)
        obtain ⟨ly, oy⟩ := HF3.out.gy.own1 (by simp)
        obtain ⟨bx, hbx⟩ : ∃ z, z = b2 := ⟨_, rfl⟩
        obtain ⟨by', hby⟩ : ∃ z, z = b3 := ⟨_, rfl⟩
        rw [← hbx] at HF3 lx ox ⊢
        rw [← hby] at HF3 ly oy ⊢
        obtain ⟨XX, hXX⟩ : ∃ z, z = fx ++ [x] := ⟨_, rfl⟩
        obtain ⟨YY, hYY⟩ : ∃ z, z = fy ++ [y] := ⟨_, rfl⟩
        have HLX : Hid (XX.length = fx.length + 1) := Lib.hid (by rw [hXX]; simp)
        have HLY : Hid (YY.length = fy.length + 1) := Lib.hid (by rw [hYY]; simp)
        rw [← hXX] at ox
        rw [← hYY] at oy
        rw [← hXX, ← hYY] at HO
        have HXE : Hid (XX = fx ++ [x]) := Lib.hid hXX
        have HYE : Hid (YY = fy ++ [y]) := Lib.hid hYY
        have HSM : Hid (fx.length ≤ 12 ∧ fy.length ≤ 12) := Lib.hid (by omega)
        have HBL : Hid (BlkL wr w2.heap.size _) := Lib.hid HF3.out.blk
        have HOX := Lib.hid ox
        have HOY := Lib.hid oy
        have HLV : Hid (w.heap.size + 2 ≤ bx ∧ w.heap.size + 2 ≤ by' ∧ bx ≠ by') := Lib.hid (by have := Z1.out; exact ⟨by omega, by omega, fun e => HF3.out.nv bx rfl (by rw [e]; rfl)⟩)
        have BR : Hid (Below w.heap.size w wr) := Lib.hid (below_of B1.out B1.out.size HF3.out.below)
        have LRR : Hid (BlkL wr (w.heap.size + 1) [.slice none 0 0, .slice none 0 0, .float .f32 0, .float .f32 0, .float .f32 0]) := Lib.hid (LR.out.below HF3.out.below)
        clear lx ly ox oy hbx hby hXX hYY HF HF2 HF3
        have HFW : Hid (FewS XX YY) := Lib.hid (by have := HLX.out; have := HLY.out; have := HSM.out; unfold FewS; omega)
        obtain ⟨k0, k1, k2, k3, k4⟩ := HBL.out.five
        cases v : frmV XX YY fr fd fs
        · have HN : Hid (O = false) := Lib.hid (by rw [HO.out, v])
          have HE : Hid (Calls Try.prog 129 #[.agg #[.slice (some ⟨bx, 0, none⟩) (fx.length + 1) cx2, .slice (some ⟨by', 0, none⟩) (fy.length + 1) cy2, .float .f32 fr, .float .f32 fd, .float .f32 fs]] wr fun e w' => e = .returned (.tuple #[.agg #[.slice none 0 0, .slice none 0 0, .float .f32 0, .float .f32 0, .float .f32 0], .bool false]) ∧ Below wr.heap.size wr w') := Lib.hid (by
            have := s_l06Give_no (some ⟨bx, 0, none⟩) (some ⟨by', 0, none⟩) cx2 cy2 XX YY fr fd fs wr ⟨HOX.out.fl, HOY.out.fl⟩ HFW.out v
            rw [HLX.out, HLY.out] at this
            exact this)
          clear v
          go_wp2_with fail
          refine HE.out.mono ?_
          rintro e w6 ⟨rfl, b6⟩
          have B6 : Hid (Below w.heap.size w w6) := Lib.hid (below_of BR.out BR.out.size b6)
          have LR6 : Hid (BlkL w6 (w.heap.size + 1) [.slice none 0 0, .slice none 0 0, .float .f32 0, .float .f32 0, .float .f32 0]) := Lib.hid (LRR.out.below b6)
          have HX6 := Lib.hid (HOX.out.below b6)
          have HY6 := Lib.hid (HOY.out.below b6)
          clear b6 k0 k1 k2 k3 k4
          have p0 := (LR6.out.2 0 _ rfl).1
          have q0 := (LR6.out.2 0 _ rfl).2
          have p1 := (LR6.out.2 1 _ rfl).1
          have q1 := (LR6.out.2 1 _ rfl).2
          have p2 := (LR6.out.2 2 _ rfl).1
          have q2 := (LR6.out.2 2 _ rfl).2
          have p3 := (LR6.out.2 3 _ rfl).1
          have q3 := (LR6.out.2 3 _ rfl).2
          have p4 := (LR6.out.2 4 _ rfl).1
          have q4 := (LR6.out.2 4 _ rfl).2
          go_wp2
          refine bodyPost_ret (v := .tuple #[.agg #[.slice none 0 0, .slice none 0 0, .float .f32 0, .float .f32 0, .float .f32 0], .bool false]) ?_ rfl ?_
          · simp [results, Try.results50, go_sem, p0, p1, p2, p3, p4]
          · rw [HN.out]
            exact ⟨none, none, 0, 0, 0, 1, rfl, ⟨.inl rfl, .inl rfl, by decide⟩, (((((B6.out).setCell (p := ⟨w.heap.size + 1, 0, none⟩) (by show w.heap.size ≤ w.heap.size + 1; omega) _).setCell (p := ⟨w.heap.size + 1, 1, none⟩) (by show w.heap.size ≤ w.heap.size + 1; omega) _).setCell (p := ⟨w.heap.size + 1, 2, none⟩) (by show w.heap.size ≤ w.heap.size + 1; omega) _).setCell (p := ⟨w.heap.size + 1, 3, none⟩) (by show w.heap.size ≤ w.heap.size + 1; omega) _).setCell (p := ⟨w.heap.size + 1, 4, none⟩) (by show w.heap.size ≤ w.heap.size + 1; omega) _⟩
        · have HN : Hid (O = true) := Lib.hid (by rw [HO.out, v])
          have HE : Hid (Calls Try.prog 129 #[.agg #[.slice (some ⟨bx, 0, none⟩) (fx.length + 1) cx2, .slice (some ⟨by', 0, none⟩) (fy.length + 1) cy2, .float .f32 fr, .float .f32 fd, .float .f32 fs]] wr fun e w' => e = .returned (.tuple #[.agg #[.slice (some ⟨bx, 0, none⟩) (fx.length + 1) cx2, .slice (some ⟨by', 0, none⟩) (fy.length + 1) cy2, .float .f32 fr, .float .f32 fd, .float .f32 fs], .bool true]) ∧ Below wr.heap.size wr w') := Lib.hid (by
            have := s_l06Give_yes (some ⟨bx, 0, none⟩) (some ⟨by', 0, none⟩) cx2 cy2 XX YY fr fd fs wr ⟨HOX.out.fl, HOY.out.fl⟩ HFW.out v
            rw [HLX.out, HLY.out] at this
            exact this)
          clear v
          go_wp2_with fail
          refine HE.out.mono ?_
          rintro e w6 ⟨rfl, b6⟩
          have B6 : Hid (Below w.heap.size w w6) := Lib.hid (below_of BR.out BR.out.size b6)
          have LR6 : Hid (BlkL w6 (w.heap.size + 1) [.slice none 0 0, .slice none 0 0, .float .f32 0, .float .f32 0, .float .f32 0]) := Lib.hid (LRR.out.below b6)
          have HX6 := Lib.hid (HOX.out.below b6)
          have HY6 := Lib.hid (HOY.out.below b6)
          clear b6 k0 k1 k2 k3 k4
          have p0 := (LR6.out.2 0 _ rfl).1
          have q0 := (LR6.out.2 0 _ rfl).2
          have p1 := (LR6.out.2 1 _ rfl).1
          have q1 := (LR6.out.2 1 _ rfl).2
          have p2 := (LR6.out.2 2 _ rfl).1
          have q2 := (LR6.out.2 2 _ rfl).2
          have p3 := (LR6.out.2 3 _ rfl).1
          have q3 := (LR6.out.2 3 _ rfl).2
          have p4 := (LR6.out.2 4 _ rfl).1
          have q4 := (LR6.out.2 4 _ rfl).2
          go_wp2
          refine bodyPost_ret (v := .tuple #[.agg #[.slice (some ⟨bx, 0, none⟩) (fx.length + 1) cx2, .slice (some ⟨by', 0, none⟩) (fy.length + 1) cy2, .float .f32 fr, .float .f32 fd, .float .f32 fs], .bool true]) ?_ rfl ?_
          · simp [results, Try.results50, go_sem, p0, p1, p2, p3, p4]
          · obtain ⟨e1, e2, e3⟩ := HLV.out
            rw [HN.out, ← HXE.out, ← HYE.out]
            refine ⟨some ⟨bx, 0, none⟩, some ⟨by', 0, none⟩, cx2, cy2, bx, by', ?_, ⟨Own.o ((((((HX6.out).setCell (p := ⟨w.heap.size + 1, 0, none⟩) (by show w.heap.size + 1 ≠ _; omega) _).setCell (p := ⟨w.heap.size + 1, 1, none⟩) (by show w.heap.size + 1 ≠ _; omega) _).setCell (p := ⟨w.heap.size + 1, 2, none⟩) (by show w.heap.size + 1 ≠ _; omega) _).setCell (p := ⟨w.heap.size + 1, 3, none⟩) (by show w.heap.size + 1 ≠ _; omega) _).setCell (p := ⟨w.heap.size + 1, 4, none⟩) (by show w.heap.size + 1 ≠ _; omega) _) (by omega), Own.o ((((((HY6.out).setCell (p := ⟨w.heap.size + 1, 0, none⟩) (by show w.heap.size + 1 ≠ _; omega) _).setCell (p := ⟨w.heap.size + 1, 1, none⟩) (by show w.heap.size + 1 ≠ _; omega) _).setCell (p := ⟨w.heap.size + 1, 2, none⟩) (by show w.heap.size + 1 ≠ _; omega) _).setCell (p := ⟨w.heap.size + 1, 3, none⟩) (by show w.heap.size + 1 ≠ _; omega) _).setCell (p := ⟨w.heap.size + 1, 4, none⟩) (by show w.heap.size + 1 ≠ _; omega) _) (by omega), e3⟩, (((((B6.out).setCell (p := ⟨w.heap.size + 1, 0, none⟩) (by show w.heap.size ≤ w.heap.size + 1; omega) _).setCell (p := ⟨w.heap.size + 1, 1, none⟩) (by show w.heap.size ≤ w.heap.size + 1; omega) _).setCell (p := ⟨w.heap.size + 1, 2, none⟩) (by show w.heap.size ≤ w.heap.size + 1; omega) _).setCell (p := ⟨w.heap.size + 1, 3, none⟩) (by show w.heap.size ≤ w.heap.size + 1; omega) _).setCell (p := ⟨w.heap.size + 1, 4, none⟩) (by show w.heap.size ≤ w.heap.size + 1; omega) _⟩
            show Ending.returned _ = Ending.returned (.tuple #[.agg #[.slice _ XX.length _, .slice _ YY.length _, _, _, _], _])
            rw [HLX.out, HLY.out]
            rfl
set_option maxHeartbeats 16000000 in
set_option maxRecDepth 100000 in
theorem s_MovePlace (X Y : Option Addr) (cx cy : Nat) (fx fy : List Nat) (fr fd fs : Nat) (i : Int) (x y : Nat) (w : World) (h : Rs w X Y fx fy) (hn : FewS fx fy) :
    Calls Try.prog 56 #[.agg #[.slice X fx.length cx, .slice Y fy.length cy, .float .f32 fr, .float .f32 fd, .float .f32 fs], .int .i64 i, .float .f32 x, .float .f32 y] w fun e w' => ∃ (R1 R2 : Option Addr) (c1 c2 g1 g2 : Nat), e = .returned (.tuple #[.agg #[.slice R1 (gL (plcO fx fy fr fd fs (hasF fx.length i) (fx.set i.toNat x) (fy.set i.toNat y)) (fx.set i.toNat x)).length c1, .slice R2 (gL (plcO fx fy fr fd fs (hasF fx.length i) (fx.set i.toNat x) (fy.set i.toNat y)) (fy.set i.toNat y)).length c2, .float .f32 (gF (plcO fx fy fr fd fs (hasF fx.length i) (fx.set i.toNat x) (fy.set i.toNat y)) fr), .float .f32 (gF (plcO fx fy fr fd fs (hasF fx.length i) (fx.set i.toNat x) (fy.set i.toNat y)) fd), .float .f32 (gF (plcO fx fy fr fd fs (hasF fx.length i) (fx.set i.toNat x) (fy.set i.toNat y)) fs)], .bool (plcO fx fy fr fd fs (hasF fx.length i) (fx.set i.toNat x) (fy.set i.toNat y))]) ∧ OwnR2 w' w.heap.size R1 R2 g1 g2 (gL (plcO fx fy fr fd fs (hasF fx.length i) (fx.set i.toNat x) (fy.set i.toNat y)) (fx.set i.toNat x)) (gL (plcO fx fy fr fd fs (hasF fx.length i) (fx.set i.toNat x) (fy.set i.toNat y)) (fy.set i.toNat y)) ∧ Below w.heap.size w w' := by
  obtain ⟨i0, hi, hz0, hz1, hz2⟩ := info_parts f32_info
  have HP := Lib.hid h; clear h
  have HON : Hid (frmV fx fy fr fd fs = false → plcO fx fy fr fd fs (hasF fx.length i) (fx.set i.toNat x) (fy.set i.toNat y) = false) := Lib.hid plcO_v
  have HOK : Hid (hasF fx.length i = false → plcO fx fy fr fd fs (hasF fx.length i) (fx.set i.toNat x) (fy.set i.toNat y) = false) := Lib.hid plcO_k
  have HOY : Hid (frmV fx fy fr fd fs = true → hasF fx.length i = true → plcO fx fy fr fd fs (hasF fx.length i) (fx.set i.toNat x) (fy.set i.toNat y) = frmV (fx.set i.toNat x) (fy.set i.toNat y) fr fd fs) := Lib.hid (fun h1 h2 => plcO_y h1 h2)
  generalize plcO fx fy fr fd fs (hasF fx.length i) (fx.set i.toNat x) (fy.set i.toNat y) = O at HON HOK HOY ⊢
  obtain ⟨X', HXE⟩ : ∃ z, Hid (z = (fx.set i.toNat x)) := ⟨_, rfl⟩
  obtain ⟨Y', HYE⟩ : ∃ z, Hid (z = (fy.set i.toNat y)) := ⟨_, rfl⟩
  rw [← HXE.out, ← HYE.out] at HOY ⊢
  obtain ⟨w0, hw0⟩ : ∃ x, x = (w.alloc (.cells #[.slice X fx.length cx, .slice Y fy.length cy, .float .f32 fr, .float .f32 fd, .float .f32 fs] 79)).alloc (.cells #[.slice none 0 0, .slice none 0 0, .float .f32 0, .float .f32 0, .float .f32 0] 79) := ⟨_, rfl⟩
  have K0 : Hid (BlkL w0 w.heap.size [.slice X fx.length cx, .slice Y fy.length cy, .float .f32 fr, .float .f32 fd, .float .f32 fs]) := Lib.hid (by rw [hw0]; exact (blkL_at w #[.slice X fx.length cx, .slice Y fy.length cy, .float .f32 fr, .float .f32 fd, .float .f32 fs] _ rfl).alloc _)
  have KR : Hid (BlkL w0 (w.heap.size + 1) [.slice none 0 0, .slice none 0 0, .float .f32 0, .float .f32 0, .float .f32 0]) := Lib.hid (by rw [hw0]; exact blkL_at (w.alloc _) #[.slice none 0 0, .slice none 0 0, .float .f32 0, .float .f32 0, .float .f32 0] _ (by simp))
  have B0 : Hid (Below w.heap.size w w0) := Lib.hid (by rw [hw0]; exact ((Below.refl _ _).alloc (Nat.le_refl _) _).alloc (by simp) _)
  have Z0 : Hid (w0.heap.size = w.heap.size + 2) := Lib.hid (by rw [hw0]; simp)
  go_enter Try.func56, Try.ntmps56
  go_wp2_with fail
  rw [← hw0]
  clear hw0
  refine (s_l06Has X Y cx cy fx fy fr fd fs i w.heap.size _ ⟨HP.out.1.below B0.out, HP.out.2.below B0.out⟩ hn K0.out).mono ?_
  rintro e w1 ⟨rfl, n1, hw⟩
  have b1 : Below w0.heap.size w0 w1 := by rw [hw]; exact below_draws (Below.refl _ _) _
  have L0 : Hid (BlkL w1 w.heap.size [.slice X fx.length cx, .slice Y fy.length cy, .float .f32 fr, .float .f32 fd, .float .f32 fs]) := Lib.hid (K0.out.below b1)
  have LR : Hid (BlkL w1 (w.heap.size + 1) [.slice none 0 0, .slice none 0 0, .float .f32 0, .float .f32 0, .float .f32 0]) := Lib.hid (KR.out.below b1)
  have B1 : Hid (Below w.heap.size w w1) := Lib.hid (below_of B0.out B0.out.size b1)
  have Z1 : Hid (w.heap.size + 2 ≤ w1.heap.size) := Lib.hid (by have := b1.size; have := Z0.out; omega)
  clear b1 hw K0 KR B0 Z0
  cases v0 : (frmV fx fy fr fd fs && hasF fx.length i)
  · have HN : Hid (O = false) := Lib.hid (by
      cases v1 : frmV fx fy fr fd fs
      · exact HON.out v1
      · rw [v1, Bool.true_and] at v0; exact HOK.out v0)
    clear v0
    have p0 := (LR.out.2 0 _ rfl).1
    have q0 := (LR.out.2 0 _ rfl).2
    have p1 := (LR.out.2 1 _ rfl).1
    have q1 := (LR.out.2 1 _ rfl).2
    have p2 := (LR.out.2 2 _ rfl).1
    have q2 := (LR.out.2 2 _ rfl).2
    have p3 := (LR.out.2 3 _ rfl).1
    have q3 := (LR.out.2 3 _ rfl).2
    have p4 := (LR.out.2 4 _ rfl).1
    have q4 := (LR.out.2 4 _ rfl).2
    go_wp2
    refine bodyPost_ret (v := .tuple #[.agg #[.slice none 0 0, .slice none 0 0, .float .f32 0, .float .f32 0, .float .f32 0], .bool false]) ?_ rfl ?_
    · simp [results, Try.results56, go_sem, p0, p1, p2, p3, p4]
    · rw [HN.out]
      exact ⟨none, none, 0, 0, 0, 1, rfl, ⟨.inl rfl, .inl rfl, by decide⟩, (((((B1.out).setCell (p := ⟨w.heap.size + 1, 0, none⟩) (by show w.heap.size ≤ w.heap.size + 1; omega) _).setCell (p := ⟨w.heap.size + 1, 1, none⟩) (by show w.heap.size ≤ w.heap.size + 1; omega) _).setCell (p := ⟨w.heap.size + 1, 2, none⟩) (by show w.heap.size ≤ w.heap.size + 1; omega) _).setCell (p := ⟨w.heap.size + 1, 3, none⟩) (by show w.heap.size ≤ w.heap.size + 1; omega) _).setCell (p := ⟨w.heap.size + 1, 4, none⟩) (by show w.heap.size ≤ w.heap.size + 1; omega) _⟩
  · obtain ⟨v1, hI⟩ := Bool.and_eq_true_iff.1 v0
    obtain ⟨hx, hx2, hy2⟩ := frmV_sized v1
    have hy : 1 ≤ fy.length := by omega
    have HO := Lib.hid (HOY.out v1 hI)
    unfold hasF at hI
    obtain ⟨k, hik⟩ : ∃ k : Nat, i = k := ⟨i.toNat, by have := of_decide_eq_true hI; omega⟩
    have hlt : k < fx.length := by have := of_decide_eq_true hI; omega
    have hlt2 : k < fy.length := by omega
    have hy12 : fy.length ≤ 12 := by omega
    have HYL : Hid (fy.length = fx.length) := Lib.hid hy2
    subst hik
    clear v0 v1 hI HON HOK HOY hy2
    have HXE' : Hid (X' = fx.set k x) := Lib.hid HXE.out
    have HYE' : Hid (Y' = fy.set k y) := Lib.hid HYE.out
    clear HXE HYE
    go_wp2_with fail
    refine (s_l06Own X Y cx cy fx fy fr fd fs w.heap.size _ ⟨HP.out.1.below B1.out, HP.out.2.below B1.out⟩ hn hx hy L0.out).mono ?_
    rintro e w2 ⟨v, v', rfl, gx, gy, nv, b2⟩
    obtain ⟨bx, cp1, rfl, lx, ox⟩ := gx.ofOwn (by intro e; rw [e] at hx; simp at hx)
    obtain ⟨by', cp2, rfl, ly, oy⟩ := gy.ofOwn (by intro e; rw [e] at hy; simp at hy)
    have hne : bx ≠ by' := fun e => nv bx rfl (by rw [e]; rfl)
    obtain ⟨wb, hwb⟩ : ∃ z, z = (w2.alloc (.cells #[.slice (some ⟨bx, 0, none⟩) fx.length cp1, .slice (some ⟨by', 0, none⟩) fy.length cp2, .float .f32 fr, .float .f32 fd, .float .f32 fs] 79)) := ⟨_, rfl⟩
    have bb : Below w2.heap.size w2 wb := by rw [hwb]; exact (Below.refl _ _).alloc (Nat.le_refl _) _
    have HB2 : Hid (BlkL wb w2.heap.size [.slice (some ⟨bx, 0, none⟩) fx.length cp1, .slice (some ⟨by', 0, none⟩) fy.length cp2, .float .f32 fr, .float .f32 fd, .float .f32 fs]) := Lib.hid (by rw [hwb]; exact blkL_at w2 #[_, _, _, _, _] _ rfl)
    have HOX := Lib.hid (ox.below bb)
    have HOY := Lib.hid (oy.below bb)
    have HLX0 : Hid (bx < w2.heap.size ∧ by' < w2.heap.size) := Lib.hid ⟨(gx.lt' rfl).2, (gy.lt' rfl).2⟩
    have HLV : Hid (w.heap.size + 2 ≤ bx ∧ w.heap.size + 2 ≤ by' ∧ bx ≠ by') := Lib.hid (by have := Z1.out; exact ⟨by omega, by omega, hne⟩)
    have BB : Hid (Below w.heap.size w wb) := Lib.hid (below_of (below_of B1.out B1.out.size b2) (below_of B1.out B1.out.size b2).size bb)
    have LB : Hid (BlkL wb (w.heap.size + 1) [.slice none 0 0, .slice none 0 0, .float .f32 0, .float .f32 0, .float .f32 0]) := Lib.hid ((LR.out.below b2).below bb)
    have ZB : Hid (w.heap.size + 2 ≤ w2.heap.size) := Lib.hid (by have := Z1.out; have := b2.size; omega)
    clear gx gy nv lx ly ox oy hne bb b2 L0 LR B1 Z1
    go_upto_region 4 with fail
    rw [← hwb]
    clear hwb
    have k0 := (HB2.out.2 0 _ rfl).1
    obtain ⟨c0, f0⟩ := HOX.out.2 k hlt
    obtain ⟨wc, hwc⟩ : ∃ z, z = wb.setCell ⟨bx, k, none⟩ (.float .f32 x) := ⟨_, rfl⟩
    have HB3 : Hid (BlkL wc w2.heap.size [.slice (some ⟨bx, 0, none⟩) fx.length cp1, .slice (some ⟨by', 0, none⟩) fy.length cp2, .float .f32 fr, .float .f32 fd, .float .f32 fs]) := Lib.hid (by rw [hwc]; exact HB2.out.other (by have := HLX0.out; show bx ≠ _; omega) _)
    have HOX3 : Hid (Own wc bx (fx.set k x)) := Lib.hid (by rw [hwc]; exact HOX.out.putF hlt)
    have HOY3 : Hid (Own wc by' fy) := Lib.hid (by rw [hwc]; exact HOY.out.setCell (by have := HLV.out; show bx ≠ _; omega) _)
    have BC : Hid (Below w.heap.size w wc) := Lib.hid (by rw [hwc]; exact BB.out.setCell (by have := HLV.out; show w.heap.size ≤ bx; omega) _)
    have LC : Hid (BlkL wc (w.heap.size + 1) [.slice none 0 0, .slice none 0 0, .float .f32 0, .float .f32 0, .float .f32 0]) := Lib.hid (by rw [hwc]; exact LB.out.other (by have := HLV.out; show bx ≠ _; omega) _)
    clear HB2 HOX HOY BB LB
    go_upto_region 5 with fail
    rw [← hwc]
    clear hwc k0 c0 f0
    have k1 := (HB3.out.2 1 _ rfl).1
    obtain ⟨c1, f1⟩ := HOY3.out.2 k hlt2
    obtain ⟨wr, hwr⟩ : ∃ z, z = wc.setCell ⟨by', k, none⟩ (.float .f32 y) := ⟨_, rfl⟩
    have HBL : Hid (BlkL wr w2.heap.size [.slice (some ⟨bx, 0, none⟩) fx.length cp1, .slice (some ⟨by', 0, none⟩) fy.length cp2, .float .f32 fr, .float .f32 fd, .float .f32 fs]) := Lib.hid (by rw [hwr]; exact HB3.out.other (by have := HLX0.out; show by' ≠ _; omega) _)
    have HOX : Hid (Own wr bx X') := Lib.hid (by rw [hwr, HXE'.out]; exact HOX3.out.setCell (by have := HLV.out; show by' ≠ _; omega) _)
    have HOY : Hid (Own wr by' Y') := Lib.hid (by rw [hwr, HYE'.out]; exact HOY3.out.putF hlt2)
    have BR : Hid (Below w.heap.size w wr) := Lib.hid (by rw [hwr]; exact BC.out.setCell (by have := HLV.out; show w.heap.size ≤ by'; omega) _)
    have LRR : Hid (BlkL wr (w.heap.size + 1) [.slice none 0 0, .slice none 0 0, .float .f32 0, .float .f32 0, .float .f32 0]) := Lib.hid (by rw [hwr]; exact LC.out.other (by have := HLV.out; show by' ≠ _; omega) _)
    clear HB3 HOX3 HOY3 BC LC
    go_upto_region 6 with fail
    rw [← hwr]
    clear hwr k1 c1 f1
    have HLX : Hid (X'.length = fx.length) := Lib.hid (by rw [HXE'.out]; simp)
    have HLY : Hid (Y'.length = fy.length) := Lib.hid (by rw [HYE'.out]; simp)
    have HSM : Hid (fx.length ≤ 12 ∧ fy.length ≤ 12) := Lib.hid (by omega)
    clear HXE' HYE'
    have HFW : Hid (FewS X' Y') := Lib.hid (by have := HLX.out; have := HLY.out; have := HSM.out; unfold FewS; omega)
    obtain ⟨k0, k1, k2, k3, k4⟩ := HBL.out.five
    cases v : frmV X' Y' fr fd fs
    · have HN : Hid (O = false) := Lib.hid (by rw [HO.out, v])
      have HE : Hid (Calls Try.prog 129 #[.agg #[.slice (some ⟨bx, 0, none⟩) (fx.length) cp1, .slice (some ⟨by', 0, none⟩) (fy.length) cp2, .float .f32 fr, .float .f32 fd, .float .f32 fs]] wr fun e w' => e = .returned (.tuple #[.agg #[.slice none 0 0, .slice none 0 0, .float .f32 0, .float .f32 0, .float .f32 0], .bool false]) ∧ Below wr.heap.size wr w') := Lib.hid (by
        have := s_l06Give_no (some ⟨bx, 0, none⟩) (some ⟨by', 0, none⟩) cp1 cp2 X' Y' fr fd fs wr ⟨HOX.out.fl, HOY.out.fl⟩ HFW.out v
        rw [HLX.out, HLY.out] at this
        exact this)
      clear v
      go_wp2_with fail
      refine HE.out.mono ?_
      rintro e w6 ⟨rfl, b6⟩
      have B6 : Hid (Below w.heap.size w w6) := Lib.hid (below_of BR.out BR.out.size b6)
      have LR6 : Hid (BlkL w6 (w.heap.size + 1) [.slice none 0 0, .slice none 0 0, .float .f32 0, .float .f32 0, .float .f32 0]) := Lib.hid (LRR.out.below b6)
      have HX6 := Lib.hid (HOX.out.below b6)
      have HY6 := Lib.hid (HOY.out.below b6)
      clear b6 k0 k1 k2 k3 k4
      have p0 := (LR6.out.2 0 _ rfl).1
      have q0 := (LR6.out.2 0 _ rfl).2
      have p1 := (LR6.out.2 1 _ rfl).1
      have q1 := (LR6.out.2 1 _ rfl).2
      have p2 := (LR6.out.2 2 _ rfl).1
      have q2 := (LR6.out.2 2 _ rfl).2
      have p3 := (LR6.out.2 3 _ rfl).1
      have q3 := (LR6.out.2 3 _ rfl).2
      have p4 := (LR6.out.2 4 _ rfl).1
      have q4 := (LR6.out.2 4 _ rfl).2
      go_wp2
      refine bodyPost_ret (v := .tuple #[.agg #[.slice none 0 0, .slice none 0 0, .float .f32 0, .float .f32 0, .float .f32 0], .bool false]) ?_ rfl ?_
      · simp [results, Try.results56, go_sem, p0, p1, p2, p3, p4]
      · rw [HN.out]
        exact ⟨none, none, 0, 0, 0, 1, rfl, ⟨.inl rfl, .inl rfl, by decide⟩, (((((B6.out).setCell (p := ⟨w.heap.size + 1, 0, none⟩) (by show w.heap.size ≤ w.heap.size + 1; omega) _).setCell (p := ⟨w.heap.size + 1, 1, none⟩) (by show w.heap.size ≤ w.heap.size + 1; omega) _).setCell (p := ⟨w.heap.size + 1, 2, none⟩) (by show w.heap.size ≤ w.heap.size + 1; omega) _).setCell (p := ⟨w.heap.size + 1, 3, none⟩) (by show w.heap.size ≤ w.heap.size + 1; omega) _).setCell (p := ⟨w.heap.size + 1, 4, none⟩) (by show w.heap.size ≤ w.heap.size + 1; omega) _⟩
    · have HN : Hid (O = true) := Lib.hid (by rw [HO.out, v])
      have HE : Hid (Calls Try.prog 129 #[.agg #[.slice (some ⟨bx, 0, none⟩) (fx.length) cp1, .slice (some ⟨by', 0, none⟩) (fy.length) cp2, .float .f32 fr, .float .f32 fd, .float .f32 fs]] wr fun e w' => e = .returned (.tuple #[.agg #[.slice (some ⟨bx, 0, none⟩) (fx.length) cp1, .slice (some ⟨by', 0, none⟩) (fy.length) cp2, .float .f32 fr, .float .f32 fd, .float .f32 fs], .bool true]) ∧ Below wr.heap.size wr w') := Lib.hid (by
        have := s_l06Give_yes (some ⟨bx, 0, none⟩) (some ⟨by', 0, none⟩) cp1 cp2 X' Y' fr fd fs wr ⟨HOX.out.fl, HOY.out.fl⟩ HFW.out v
        rw [HLX.out, HLY.out] at this
        exact this)
      clear v
      go_wp2_with fail
      refine HE.out.mono ?_
      rintro e w6 ⟨rfl, b6⟩
      have B6 : Hid (Below w.heap.size w w6) := Lib.hid (below_of BR.out BR.out.size b6)
      have LR6 : Hid (BlkL w6 (w.heap.size + 1) [.slice none 0 0, .slice none 0 0, .float .f32 0, .float .f32 0, .float .f32 0]) := Lib.hid (LRR.out.below b6)
      have HX6 := Lib.hid (HOX.out.below b6)
      have HY6 := Lib.hid (HOY.out.below b6)
      clear b6 k0 k1 k2 k3 k4
      have p0 := (LR6.out.2 0 _ rfl).1
      have q0 := (LR6.out.2 0 _ rfl).2
      have p1 := (LR6.out.2 1 _ rfl).1
      have q1 := (LR6.out.2 1 _ rfl).2
      have p2 := (LR6.out.2 2 _ rfl).1
      have q2 := (LR6.out.2 2 _ rfl).2
      have p3 := (LR6.out.2 3 _ rfl).1
      have q3 := (LR6.out.2 3 _ rfl).2
      have p4 := (LR6.out.2 4 _ rfl).1
      have q4 := (LR6.out.2 4 _ rfl).2
      go_wp2
      refine bodyPost_ret (v := .tuple #[.agg #[.slice (some ⟨bx, 0, none⟩) (fx.length) cp1, .slice (some ⟨by', 0, none⟩) (fy.length) cp2, .float .f32 fr, .float .f32 fd, .float .f32 fs], .bool true]) ?_ rfl ?_
      · simp [results, Try.results56, go_sem, p0, p1, p2, p3, p4]
      · obtain ⟨e1, e2, e3⟩ := HLV.out
        rw [HN.out]
        refine ⟨some ⟨bx, 0, none⟩, some ⟨by', 0, none⟩, cp1, cp2, bx, by', ?_, ⟨Own.o ((((((HX6.out).setCell (p := ⟨w.heap.size + 1, 0, none⟩) (by show w.heap.size + 1 ≠ _; omega) _).setCell (p := ⟨w.heap.size + 1, 1, none⟩) (by show w.heap.size + 1 ≠ _; omega) _).setCell (p := ⟨w.heap.size + 1, 2, none⟩) (by show w.heap.size + 1 ≠ _; omega) _).setCell (p := ⟨w.heap.size + 1, 3, none⟩) (by show w.heap.size + 1 ≠ _; omega) _).setCell (p := ⟨w.heap.size + 1, 4, none⟩) (by show w.heap.size + 1 ≠ _; omega) _) (by omega), Own.o ((((((HY6.out).setCell (p := ⟨w.heap.size + 1, 0, none⟩) (by show w.heap.size + 1 ≠ _; omega) _).setCell (p := ⟨w.heap.size + 1, 1, none⟩) (by show w.heap.size + 1 ≠ _; omega) _).setCell (p := ⟨w.heap.size + 1, 2, none⟩) (by show w.heap.size + 1 ≠ _; omega) _).setCell (p := ⟨w.heap.size + 1, 3, none⟩) (by show w.heap.size + 1 ≠ _; omega) _).setCell (p := ⟨w.heap.size + 1, 4, none⟩) (by show w.heap.size + 1 ≠ _; omega) _) (by omega), e3⟩, (((((B6.out).setCell (p := ⟨w.heap.size + 1, 0, none⟩) (by show w.heap.size ≤ w.heap.size + 1; omega) _).setCell (p := ⟨w.heap.size + 1, 1, none⟩) (by show w.heap.size ≤ w.heap.size + 1; omega) _).setCell (p := ⟨w.heap.size + 1, 2, none⟩) (by show w.heap.size ≤ w.heap.size + 1; omega) _).setCell (p := ⟨w.heap.size + 1, 3, none⟩) (by show w.heap.size ≤ w.heap.size + 1; omega) _).setCell (p := ⟨w.heap.size + 1, 4, none⟩) (by show w.heap.size ≤ w.heap.size + 1; omega) _⟩
        show Ending.returned _ = Ending.returned (.tuple #[.agg #[.slice _ X'.length _, .slice _ Y'.length _, _, _, _], _])
        rw [HLX.out, HLY.out]
        rfl
end Go.Proofs.Ytiiiigldpbomkaa
