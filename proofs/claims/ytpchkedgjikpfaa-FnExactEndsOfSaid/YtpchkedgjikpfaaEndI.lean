/- Where loads turn: the functions. No statement is proved here. -/
import Derived.Test.YtpchkedgjikpfaaEnd
import Derived.BigQuiet
namespace Go.Proofs.Ytpchkedgjikpfaa
open Go Go.RowKit
set_option maxHeartbeats 8000000 in
set_option maxRecDepth 100000 in
theorem i_withLoad (v : Value) (ys : List Nat) (x : Nat) (w0 w : World) (h : Gr w w0.heap.size v ys) (hb : Below w0.heap.size w0 w) (hn : ys.length ≤ 64) :
    Calls Try.prog 79 #[v, .float .f32 x] w fun e w' => ∃ v', e = .returned v' ∧ Gr w' w0.heap.size v' (enStep ys x) ∧ Below w0.heap.size w0 w' := by
  obtain ⟨i0, hi, hz0, hz1, hz2⟩ := info_parts f32_info
  have HI := Lib.hid hi
  have HZ0 := Lib.hid hz0
  have HZ1 := Lib.hid hz1
  have HZ2 := Lib.hid hz2
  clear hi hz0 hz1 hz2
  have HG := Lib.hid h
  have HB := Lib.hid hb
  have HLN := Lib.hid hn
  clear hb hn
  rcases h.parts with ⟨rfl, rfl⟩ | ⟨g, cap, rfl, hcap, hbg, hcell, hfz⟩
  · have HE : Hid (enStep [] x = [] ++ [x]) := Lib.hid (enStep_app (.inl rfl) (.inl (Nat.zero_le _)))
    clear h
    go_enter Try.func79, Try.ntmps79
    have hown := HG.out
    unfold Gr at hown
    go_wp2_with (first
      | (at_builtin; refine wpList_append_own _ rfl _ _ 38 rfl w0.heap.size 22 i0 (.float .f32 0) 1 4 Try.underlying38 HI.out HZ0.out HZ1.out HZ2.out rfl (by decide) _ _ _ rfl (hown.alloc _) ⟨_, 0, none⟩ 1 1 [.float .f32 x] rfl rfl ?c1 ?c2 ?c3 ?c4 ?c5 ?_)
      | fail)
    case c1 =>
      intro j u hj
      match j, hj with
      | 0, hj => simp at hj; subst hj; first | (simp [Addr.add]; done) | exact (World.cell?_alloc_at (w := wr.drewN nq) #[.float .f32 x] 22 wr.heap.size 0 rfl).trans rfl
    case c2 => intro u hu; simp at hu; subst hu; rfl
    case c3 => have := HLN.out; unfold maxLen; omega
    case c4 => have := HLN.out; omega
    case c5 => first | (have := HB.out.size; simp; omega) | (have := HBW.out.size; simp; omega)
    · intro v' w9 hown' hgrow _
      have hown2 : w9.ownsRow w0.heap.size 22 1 v' (([] : List Nat).length + 1) (([] : List Nat).map (Value.float .f32) ++ [.float .f32 x]) := by first | exact hown' | (rw [hN]; exact hown') | (rw [e5]; exact hown')
      obtain ⟨g2, b2⟩ := Gr.next (by first | exact HG.out | (rw [← hN] at *; exact HG.out) | (have := HG.out; rw [← e5] at this; exact HG.out)) HB.out (Nat.le_refl _) hown2 hgrow
      have HG9 := Lib.hid g2
      have HB9 := Lib.hid b2
      clear g2 b2 hown hown' hown2 hgrow
      have HG10 : Hid (Gr w9 w0.heap.size v' (enStep [] x)) := Lib.hid (by rw [HE.out]; exact HG9.out)
      go_wp2
      go_ret
      exact ⟨_, rfl, HG10.out, HB9.out⟩
  · have HP : Hid (∀ j, j < ys.length → w.cell? ⟨g, j, none⟩ = some (.float .f32 (ys.getD j 0))) := Lib.hid hcell
    have HQ : Hid (∀ (r : Nat), eqF x (ys.getD (ys.length - 1) 0) = true → 1 ≤ ys.length → enStep ys x = ys) := Lib.hid (fun _ h2 h => enStep_same h h2)
    clear h hcell
    by_cases h1 : 1 ≤ ys.length
    · have hc1 := HP.out (ys.length - 1) (by omega)
      have e1 : IntKind.i64.wrap ((ys.length : Int) - 1) = ((ys.length - 1 : Nat) : Int) := by have := HLN.out; rw [IntWalk.i64_in _ (by omega)]; omega
      have HE1 : Hid (eqF x (ys.getD (ys.length - 1) 0) = true → enStep ys x = ys) := Lib.hid (fun h => enStep_same h1 h)
      by_cases h2 : 2 ≤ ys.length
      · have hc2 := HP.out (ys.length - 2) (by omega)
        have e2 : IntKind.i64.wrap (((ys.length - 1 : Nat) : Int) - 1) = ((ys.length - 2 : Nat) : Int) := by have := HLN.out; rw [IntWalk.i64_in _ (by omega)]; omega
        have e3 : ys.length - (ys.length - 2) = 2 := by omega
        have e4 : ys.length - 2 + 1 = ys.length - 1 := by omega
        have HE2 : Hid (eqF x (ys.getD (ys.length - 1) 0) = false → goesB (ys.getD (ys.length - 2) 0) (ys.getD (ys.length - 1) 0) x = true → enStep ys x = ys.set (ys.length - 1) x) := Lib.hid (fun h h' => enStep_set h2 h h')
        have HE3 : Hid (eqF x (ys.getD (ys.length - 1) 0) = false → goesB (ys.getD (ys.length - 2) 0) (ys.getD (ys.length - 1) 0) x = false → enStep ys x = ys ++ [x]) := Lib.hid (fun h h' => enStep_app (.inr h) (.inr h'))
        have HST : Hid (Gr (w.setCell ⟨g, ys.length - 1, none⟩ (.float .f32 x)) w0.heap.size (.slice (some ⟨g, 0, none⟩) ys.length cap) (ys.set (ys.length - 1) x)) := Lib.hid HG.out.set
        have HSB : Hid (Below w0.heap.size w0 (w.setCell ⟨g, ys.length - 1, none⟩ (.float .f32 x))) := Lib.hid (HB.out.setCell hbg _)
        have hf1 := hfz (ys.length - 1)
        generalize ys.getD (ys.length - 1) 0 = l at hc1 HE1 HE2 HE3
        generalize ys.getD (ys.length - 2) 0 = p at hc2 HE2 HE3
        clear HP HQ hfz
        generalize hN : ys.length = N at *
        cases he : eqF x l
        · have he0 := Lib.hid he
          unfold eqF at he
          have hp1 : 1 ≤ N - 1 := by omega
          have hc3 : w.cell? ⟨g, N - 2 + 1, none⟩ = some (.float .f32 l) := by rw [e4]; exact hc1
          go_enter Try.func79, Try.ntmps79
          go_wp2_with fail
          refine (i_goesOn p l x _).mono ?_
          rintro e w1 ⟨rfl, b1⟩
          have HG1 := Lib.hid (HG.out.below b1)
          have HB1 : Hid (Below w0.heap.size w0 w1) := Lib.hid (below_of HB.out HB.out.size b1)
          have hlg : g < w.heap.size := (cell_lt hc1).1
          have hd1 : w1.cell? ⟨g, N - 1, none⟩ = some (.float .f32 l) := by rw [b1.cell (p := ⟨g, N - 1, none⟩) hlg]; exact hc1
          have hf2 : w1.frozen? ⟨g, N - 1, none⟩ = false := by rw [b1.frozen (p := ⟨g, N - 1, none⟩) hlg]; exact hf1
          have HST1 : Hid (Gr (w1.setCell ⟨g, N - 1, none⟩ (.float .f32 x)) w0.heap.size (.slice (some ⟨g, 0, none⟩) N cap) (ys.set (N - 1) x)) := Lib.hid (by have h1 := HG1.out; rw [← hN] at h1 ⊢; exact h1.set)
          have HSB1 : Hid (Below w0.heap.size w0 (w1.setCell ⟨g, N - 1, none⟩ (.float .f32 x))) := Lib.hid (HB1.out.setCell hbg _)
          clear b1 hc1 hc2 hc3 hf1 e3 e4 e2 hlg HST HSB
          cases hg : goesB p l x
          · have HE := Lib.hid (HE3.out he0.out hg)
            clear hg
            have hown := HG1.out
            unfold Gr at hown
            go_wp2_with (first
              | (at_builtin; refine wpList_append_own _ rfl _ _ 38 rfl w0.heap.size 22 i0 (.float .f32 0) 1 4 Try.underlying38 HI.out HZ0.out HZ1.out HZ2.out rfl (by decide) _ _ _ rfl (hown.alloc _) ⟨_, 0, none⟩ 1 1 [.float .f32 x] rfl rfl ?c1 ?c2 ?c3 ?c4 ?c5 ?_)
              | fail)
            case c1 =>
              intro j u hj
              match j, hj with
              | 0, hj => simp at hj; subst hj; first | (simp [Addr.add]; done) | exact (World.cell?_alloc_at (w := wr.drewN nq) #[.float .f32 x] 22 wr.heap.size 0 rfl).trans rfl
            case c2 => intro u hu; simp at hu; subst hu; rfl
            case c3 => have := HLN.out; unfold maxLen; omega
            case c4 => have := HLN.out; omega
            case c5 => first | (have := HB1.out.size; simp; omega) | (have := HBW.out.size; simp; omega)
            · intro v' w9 hown' hgrow _
              have hown2 : w9.ownsRow w0.heap.size 22 1 v' (ys.length + 1) (ys.map (Value.float .f32) ++ [.float .f32 x]) := by first | exact hown' | (rw [hN]; exact hown') | (rw [e5]; exact hown')
              obtain ⟨g2, b2⟩ := Gr.next (by first | exact HG1.out | (rw [← hN] at *; exact HG1.out) | (have := HG1.out; rw [← e5] at this; exact HG.out)) HB1.out (Nat.le_refl _) hown2 hgrow
              have HG9 := Lib.hid g2
              have HB9 := Lib.hid b2
              clear g2 b2 hown hown' hown2 hgrow
              have HG10 : Hid (Gr w9 w0.heap.size v' (enStep ys x)) := Lib.hid (by rw [HE.out]; exact HG9.out)
              go_wp2
              go_ret
              exact ⟨_, rfl, HG10.out, HB9.out⟩
          · have HE := Lib.hid (HE2.out he0.out hg)
            clear hg
            have HG10 : Hid (Gr (w1.setCell ⟨g, N - 1, none⟩ (.float .f32 x)) w0.heap.size (.slice (some ⟨g, 0, none⟩) N cap) (enStep ys x)) := Lib.hid (by rw [HE.out]; exact HST1.out)
            go_wp2
            go_ret
            exact ⟨_, rfl, HG10.out, HSB1.out⟩
        · have HE := Lib.hid (HE1.out he)
          unfold eqF at he
          have HG10 : Hid (Gr w w0.heap.size (.slice (some ⟨g, 0, none⟩) N cap) (enStep ys x)) := Lib.hid (by rw [HE.out]; exact HG.out)
          have hp1 : 1 ≤ N - 1 := by omega
          go_enter Try.func79, Try.ntmps79
          go_wp2
          go_ret
          exact ⟨_, rfl, HG10.out, HB.out⟩
      · have e0 : ys.length - 1 = 0 := by omega
        have e5 : ys.length = 1 := by omega
        have HE3 : Hid (eqF x (ys.getD (ys.length - 1) 0) = false → enStep ys x = ys ++ [x]) := Lib.hid (fun h => enStep_app (.inr h) (.inl (by omega)))
        generalize ys.getD (ys.length - 1) 0 = l at hc1 HE1 HE3
        clear HP HQ hfz h1 h2
        rw [e0] at hc1 e1
        rw [e5] at e1
        have HG0 := HG.out
        rw [e5] at HG0
        rw [e5]
        have HG1 := Lib.hid HG0
        clear HG0
        cases he : eqF x l
        · have HE := Lib.hid (HE3.out he)
          unfold eqF at he
          go_enter Try.func79, Try.ntmps79
          have hown := HG1.out
          unfold Gr at hown
          go_wp2_with (first
            | (at_builtin; refine wpList_append_own _ rfl _ _ 38 rfl w0.heap.size 22 i0 (.float .f32 0) 1 4 Try.underlying38 HI.out HZ0.out HZ1.out HZ2.out rfl (by decide) _ _ _ rfl (hown.alloc _) ⟨_, 0, none⟩ 1 1 [.float .f32 x] rfl rfl ?c1 ?c2 ?c3 ?c4 ?c5 ?_)
            | fail)
          case c1 =>
            intro j u hj
            match j, hj with
            | 0, hj => simp at hj; subst hj; first | (simp [Addr.add]; done) | exact (World.cell?_alloc_at (w := wr.drewN nq) #[.float .f32 x] 22 wr.heap.size 0 rfl).trans rfl
          case c2 => intro u hu; simp at hu; subst hu; rfl
          case c3 => have := HLN.out; unfold maxLen; omega
          case c4 => have := HLN.out; omega
          case c5 => first | (have := HB.out.size; simp; omega) | (have := HBW.out.size; simp; omega)
          · intro v' w9 hown' hgrow _
            have hown2 : w9.ownsRow w0.heap.size 22 1 v' (ys.length + 1) (ys.map (Value.float .f32) ++ [.float .f32 x]) := by first | exact hown' | (rw [hN]; exact hown') | (rw [e5]; exact hown')
            obtain ⟨g2, b2⟩ := Gr.next (by first | exact HG1.out | (rw [← hN] at *; exact HG1.out) | (have := HG1.out; rw [← e5] at this; exact HG.out)) HB.out (Nat.le_refl _) hown2 hgrow
            have HG9 := Lib.hid g2
            have HB9 := Lib.hid b2
            clear g2 b2 hown hown' hown2 hgrow
            have HG10 : Hid (Gr w9 w0.heap.size v' (enStep ys x)) := Lib.hid (by rw [HE.out]; exact HG9.out)
            go_wp2
            go_ret
            exact ⟨_, rfl, HG10.out, HB9.out⟩
        · have HE := Lib.hid (HE1.out he)
          unfold eqF at he
          have HG10 : Hid (Gr w w0.heap.size (.slice (some ⟨g, 0, none⟩) 1 cap) (enStep ys x)) := Lib.hid (by rw [HE.out]; exact HG1.out)
          go_enter Try.func79, Try.ntmps79
          go_wp2
          go_ret
          exact ⟨_, rfl, HG10.out, HB.out⟩
    · have e5 : ys.length = 0 := by omega
      have hys : ys = [] := List.eq_nil_of_length_eq_zero e5
      subst hys
      have HE : Hid (enStep [] x = [] ++ [x]) := Lib.hid (enStep_app (.inl rfl) (.inl (Nat.zero_le _)))
      clear HP HQ hfz
      go_enter Try.func79, Try.ntmps79
      have hown := HG.out
      unfold Gr at hown
      go_wp2_with (first
        | (at_builtin; refine wpList_append_own _ rfl _ _ 38 rfl w0.heap.size 22 i0 (.float .f32 0) 1 4 Try.underlying38 HI.out HZ0.out HZ1.out HZ2.out rfl (by decide) _ _ _ rfl (hown.alloc _) ⟨_, 0, none⟩ 1 1 [.float .f32 x] rfl rfl ?c1 ?c2 ?c3 ?c4 ?c5 ?_)
        | fail)
      case c1 =>
        intro j u hj
        match j, hj with
        | 0, hj => simp at hj; subst hj; first | (simp [Addr.add]; done) | exact (World.cell?_alloc_at (w := wr.drewN nq) #[.float .f32 x] 22 wr.heap.size 0 rfl).trans rfl
      case c2 => intro u hu; simp at hu; subst hu; rfl
      case c3 => have := HLN.out; unfold maxLen; omega
      case c4 => have := HLN.out; omega
      case c5 => first | (have := HB.out.size; simp; omega) | (have := HBW.out.size; simp; omega)
      · intro v' w9 hown' hgrow _
        have hown2 : w9.ownsRow w0.heap.size 22 1 v' (([] : List Nat).length + 1) (([] : List Nat).map (Value.float .f32) ++ [.float .f32 x]) := by first | exact hown' | (rw [hN]; exact hown') | (rw [e5]; exact hown')
        obtain ⟨g2, b2⟩ := Gr.next (by first | exact HG.out | (rw [← hN] at *; exact HG.out) | (have := HG.out; rw [← e5] at this; exact HG.out)) HB.out (Nat.le_refl _) hown2 hgrow
        have HG9 := Lib.hid g2
        have HB9 := Lib.hid b2
        clear g2 b2 hown hown' hown2 hgrow
        have HG10 : Hid (Gr w9 w0.heap.size v' (enStep [] x)) := Lib.hid (by rw [HE.out]; exact HG9.out)
        go_wp2
        go_ret
        exact ⟨_, rfl, HG10.out, HB9.out⟩
set_option maxHeartbeats 8000000 in
set_option maxRecDepth 100000 in
theorem i_EndsOf (A : Option Addr) (cap : Nat) (xs : List Nat) (w : World) (h : Fl w A xs) (hn : xs.length ≤ 1048576) :
    Calls Try.prog 38 #[.slice A xs.length cap] w fun e w' => ∃ A' c g, e = .returned (.tuple #[.slice A' (endL xs).length c, .bool (endO xs)]) ∧ OwnO w' w.heap.size A' g (endL xs) ∧ Gr w' w.heap.size (.slice A' (endL xs).length c) (endL xs) ∧ Below w.heap.size w w' := by
  have HF := Lib.hid h; clear h
  obtain ⟨i0, hi, hz0, hz1, hz2⟩ := info_parts f32_info
  have HI := Lib.hid hi
  have HZ0 := Lib.hid hz0
  have HZ1 := Lib.hid hz1
  have HZ2 := Lib.hid hz2
  clear hi hz0 hz1 hz2
  go_enter Try.func38, Try.ntmps38
  go_wp2_with fail
  refine (i_areLoads A cap xs _ HF.out hn).mono ?_
  rintro e w1 ⟨rfl, n1, hw⟩
  have B1 : Hid (Below w.heap.size w w1) := Lib.hid (by rw [hw]; exact below_draws (Below.refl _ _) _)
  have HS1 : Hid (w1.heap.size = w.heap.size) := Lib.hid (by rw [hw]; rfl)
  clear hw
  cases v : ldV xs
  · have HN : Hid (endO xs = false) := Lib.hid v
    have HL := Lib.hid (endL_no v)
    clear v
    go_wp2
    go_ret2
    exact ⟨none, 0, 0, by rw [HN.out, HL.out]; rfl, .inl HL.out, by rw [HL.out]; exact Gr.nil _ _, B1.out⟩
  · have V := Lib.hid v; clear v
    have hl := (ldV_len V.out).2
    have HF1 : Hid (Fl w1 A xs) := Lib.hid (HF.out.below B1.out)
    have hmk := run_make (P := Try.prog) w1 38 22 i0 (.float .f32 0) (by kernel_rfl) HI.out HZ0.out .i64 .i64 0 xs.length (by omega) (by omega) (by rw [HZ2.out]; omega) (by omega)
    rw [HZ1.out] at hmk
    have hmk' : (Instr.makeSlice 38 (.int .i64 0) (.int .i64 xs.length)).run Try.prog w1 = .ok (.slice (some ⟨w1.heap.size, 0, none⟩) 0 xs.length) (w1.alloc (.cells (madeCells #[.float .f32 0] xs.length) 22)) := by
      rw [hmk]; simp [Value.cells]
    clear hmk
    have HST : Hid (Gr (w1.alloc (.cells (madeCells #[.float .f32 0] xs.length) 22)) w1.heap.size (.slice (some ⟨w1.heap.size, 0, none⟩) 0 xs.length) []) := Lib.hid (Gr.made _ _ _ _ (Nat.le_refl _) (by unfold maxLen; omega) (by simp [madeCells]))
    have HB0 : Hid (Below w1.heap.size w1 (w1.alloc (.cells (madeCells #[.float .f32 0] xs.length) 22))) := Lib.hid ((Below.refl _ _).alloc (Nat.le_refl _) _)
    go_wp2_with fail
    clear hmk'
    go_loopw [4, 15] (fun vv i wr => ∃ (k : Nat), k ≤ xs.length ∧ i = .int .i64 k ∧ Hid (Gr wr w1.heap.size vv (enK xs k)) ∧ Hid (Below w1.heap.size w1 wr)) (fun _ i _ => xs.length - (intOf i).toNat)
    case atStart => exact ⟨0, Nat.zero_le _, rfl, HST, HB0⟩
    case round =>
      obtain ⟨k, hk, rfl, HGR, HBW⟩ := hrel
      by_cases hlt : k < xs.length
      · obtain ⟨b, off, rfl, -, hc⟩ := (HF1.out.below HBW.out).at_ hlt
        have HK : Hid (enK xs (k + 1) = enStep (enK xs k) (xs.getD k 0)) := rfl
        have hle := enK_len xs k
        generalize xs.getD k 0 = x at hc HK
        go_wp2_with fail
        refine (i_withLoad _ (enK xs k) x w1 _ HGR.out HBW.out (by omega)).mono ?_
        rintro e w3 ⟨v', rfl, hg, hb⟩
        have HG3 : Hid (Gr w3 w1.heap.size v' (enK xs (k + 1))) := Lib.hid (by rw [HK.out]; exact hg)
        have HB3 := Lib.hid hb
        clear hg hb hc
        go_wp2
        go_roundw
        case rel => exact ⟨k + 1, by omega, by go_num, HG3, HB3⟩
        case measure => simp [intOf]; omega
      · have hkk : k = xs.length := by omega
        subst hkk
        have HY : Hid (endO xs = true) := Lib.hid V.out
        have HL := Lib.hid (endL_yes V.out)
        have hgr := HGR.out
        rw [← HL.out] at hgr
        obtain ⟨A', cap', b', rfl, ho⟩ := hgr.own
        have HO := Lib.hid ho
        have HGF := Lib.hid hgr
        clear ho hgr
        go_wp2
        go_ret2
        exact ⟨A', cap', b', by rw [HY.out]; rfl, by rw [← HS1.out]; exact HO.out, by rw [← HS1.out]; exact HGF.out, below_of B1.out B1.out.size HBW.out⟩
set_option maxHeartbeats 16000000 in
set_option maxRecDepth 100000 in
theorem s_l07Ends (A : Option Addr) (cap : Nat) (xs : List Nat) (w : World) (h : Fl w A xs) (hn : xs.length ≤ 64) :
    Calls Try.prog 78 #[.slice A xs.length cap] w fun e w' => ∃ v, e = .returned v ∧ Gr w' w.heap.size v (enK xs xs.length) ∧ Below w.heap.size w w' := by
  have HF := Lib.hid h; clear h
  obtain ⟨i0, hi, hz0, hz1, hz2⟩ := info_parts f32_info
  have HI := Lib.hid hi
  have HZ0 := Lib.hid hz0
  have HZ1 := Lib.hid hz1
  have HZ2 := Lib.hid hz2
  clear hi hz0 hz1 hz2
  have HST : Hid (Gr (w.alloc (.cells #[] 22)) w.heap.size (.slice (some ⟨w.heap.size, 0, none⟩) 0 0) []) := Lib.hid (Gr.made _ _ 0 #[] (Nat.le_refl _) (by unfold maxLen; omega) rfl)
  have HB0 : Hid (Below w.heap.size w (w.alloc (.cells #[] 22))) := Lib.hid ((Below.refl _ _).alloc (Nat.le_refl _) _)
  go_enter Try.func78, Try.ntmps78
  go_wp2
  go_loopw [3, 10] (fun vv i wr => ∃ (k : Nat), k ≤ xs.length ∧ i = .int .i64 k ∧ Hid (Gr wr w.heap.size vv (enK xs k)) ∧ Hid (Below w.heap.size w wr)) (fun _ i _ => xs.length - (intOf i).toNat)
  case atStart => exact ⟨0, Nat.zero_le _, rfl, HST, HB0⟩
  case round =>
    obtain ⟨k, hk, rfl, HGR, HBW⟩ := hrel
    by_cases hlt : k < xs.length
    · obtain ⟨b, off, rfl, -, hc⟩ := (HF.out.below HBW.out).at_ hlt
      have HK : Hid (enK xs (k + 1) = enStep (enK xs k) (xs.getD k 0)) := rfl
      have hle := enK_len xs k
      have HLN : Hid ((enK xs k).length ≤ 64) := Lib.hid (by omega)
      generalize xs.getD k 0 = x at hc HK
      generalize enK xs k = ys at HGR HK hle HLN
      rcases HGR.out.parts with ⟨rfl, rfl⟩ | ⟨g, cap', rfl, hcap, hbg, hcell, hfz⟩
      · have HE : Hid (enK xs (k + 1) = [] ++ [x]) := Lib.hid (by rw [HK.out]; exact enStep_app (.inl rfl) (.inl (Nat.zero_le _)))
        have HG1 : ∀ n, Hid (Gr (wr.drewN n) w.heap.size (.slice none 0 0) []) := fun n => Lib.hid (HGR.out.draws n)
        have HB1 : ∀ n, Hid (Below w.heap.size w (wr.drewN n)) := fun n => Lib.hid (below_draws HBW.out n)
        go_wp2_with fail
        go_quiet (fail)
        all_goals
          have hown := (HG1 nq).out
          unfold Gr at hown
          go_wp2_with (first
            | (at_builtin; refine wpList_append_own _ rfl _ _ 38 rfl w.heap.size 22 i0 (.float .f32 0) 1 4 Try.underlying38 HI.out HZ0.out HZ1.out HZ2.out rfl (by decide) _ _ _ rfl (hown.alloc _) ⟨_, 0, none⟩ 1 1 [.float .f32 x] rfl rfl ?c1 ?c2 ?c3 ?c4 ?c5 ?_)
            | fail)
          case c1 =>
            intro j u hj
            match j, hj with
            | 0, hj => simp at hj; subst hj; first | (simp [Addr.add]; done) | exact (World.cell?_alloc_at (w := wr.drewN nq) #[.float .f32 x] 22 wr.heap.size 0 rfl).trans rfl
          case c2 => intro u hu; simp at hu; subst hu; rfl
          case c3 => have := HLN.out; unfold maxLen; omega
          case c4 => have := HLN.out; omega
          case c5 => first | (have := (HB1 nq).out.size; simp; omega) | (have := HBW.out.size; simp; omega)
          · intro v' w9 hown' hgrow _
            have hown2 : w9.ownsRow w.heap.size 22 1 v' (([] : List Nat).length + 1) (([] : List Nat).map (Value.float .f32) ++ [.float .f32 x]) := by first | exact hown' | (rw [hN]; exact hown') | (rw [e5]; exact hown')
            obtain ⟨g2, b2⟩ := Gr.next (by first | exact (HG1 nq).out | (rw [← hN] at *; exact (HG1 nq).out) | (have := (HG1 nq).out; rw [← e5] at this; exact HG.out)) (HB1 nq).out (Nat.le_refl _) hown2 hgrow
            have HG9 := Lib.hid g2
            have HB9 := Lib.hid b2
            clear g2 b2 hown hown' hown2 hgrow
            have HG10 : Hid (Gr w9 w.heap.size v' (enK xs (k + 1))) := Lib.hid (by rw [HE.out]; exact HG9.out)
            go_wp2
            go_roundw
            case rel => exact ⟨k + 1, by omega, by go_num, HG10, HB9⟩
            case measure => simp [intOf]; omega
      · have HP : Hid (∀ j, j < ys.length → wr.cell? ⟨g, j, none⟩ = some (.float .f32 (ys.getD j 0))) := Lib.hid hcell
        have HG1 : ∀ n, Hid (Gr (wr.drewN n) w.heap.size (.slice (some ⟨g, 0, none⟩) ys.length cap') ys) := fun n => Lib.hid (HGR.out.draws n)
        have HB1 : ∀ n, Hid (Below w.heap.size w (wr.drewN n)) := fun n => Lib.hid (below_draws HBW.out n)
        clear hcell
        by_cases h1 : 1 ≤ ys.length
        · have hc1 := HP.out (ys.length - 1) (by omega)
          have e1 : IntKind.i64.wrap ((ys.length : Int) - 1) = ((ys.length - 1 : Nat) : Int) := by have := HLN.out; rw [IntWalk.i64_in _ (by omega)]; omega
          have HE1 : Hid (eqF x (ys.getD (ys.length - 1) 0) = true → enK xs (k + 1) = ys) := Lib.hid (fun h => by rw [HK.out]; exact enStep_same h1 h)
          by_cases h2 : 2 ≤ ys.length
          · have hc2 := HP.out (ys.length - 2) (by omega)
            have e2 : IntKind.i64.wrap ((ys.length : Int) - 2) = ((ys.length - 2 : Nat) : Int) := by have := HLN.out; rw [IntWalk.i64_in _ (by omega)]; omega
            have HE2 : Hid (eqF x (ys.getD (ys.length - 1) 0) = false → ((gtr32 (ys.getD (ys.length - 1) 0) (ys.getD (ys.length - 2) 0) && lss32 (ys.getD (ys.length - 1) 0) x) || (lss32 (ys.getD (ys.length - 1) 0) (ys.getD (ys.length - 2) 0) && gtr32 (ys.getD (ys.length - 1) 0) x)) = true → enK xs (k + 1) = ys.set (ys.length - 1) x) := Lib.hid (fun h h' => by rw [HK.out]; exact enStep_set h2 h (by rw [goesB_swap]; exact h'))
            have HE3 : Hid (eqF x (ys.getD (ys.length - 1) 0) = false → ((gtr32 (ys.getD (ys.length - 1) 0) (ys.getD (ys.length - 2) 0) && lss32 (ys.getD (ys.length - 1) 0) x) || (lss32 (ys.getD (ys.length - 1) 0) (ys.getD (ys.length - 2) 0) && gtr32 (ys.getD (ys.length - 1) 0) x)) = false → enK xs (k + 1) = ys ++ [x]) := Lib.hid (fun h h' => by rw [HK.out]; exact enStep_app (.inr h) (.inr (by rw [goesB_swap]; exact h')))
            have HST1 : ∀ n, Hid (Gr ((wr.drewN n).setCell ⟨g, ys.length - 1, none⟩ (.float .f32 x)) w.heap.size (.slice (some ⟨g, 0, none⟩) ys.length cap') (ys.set (ys.length - 1) x)) := fun n => Lib.hid (HG1 n).out.set
            have HSB1 : ∀ n, Hid (Below w.heap.size w ((wr.drewN n).setCell ⟨g, ys.length - 1, none⟩ (.float .f32 x))) := fun n => Lib.hid ((HB1 n).out.setCell hbg _)
            have hf1 := hfz (ys.length - 1)
            generalize ys.getD (ys.length - 1) 0 = l at hc1 HE1 HE2 HE3
            generalize ys.getD (ys.length - 2) 0 = p at hc2 HE2 HE3
            clear HP hfz
            generalize hN : ys.length = N at *
            have hp0 : 0 < N := by omega
            have hp1 : 1 < N := by omega
            have hd1 : decide ((1 : Int) < (N : Int)) = true := decide_eq_true (by omega)
            have hd2 : ((1 : Int) < (N : Int)) = True := eq_true (by omega)
            cases he : eqF x l
            · have he0 := Lib.hid he
              unfold eqF at he
              cases q1 : gtr32 l p
              · skip
                cases q3 : lss32 l p
                · skip
                  have HE := Lib.hid (HE3.out he0.out (by rw [q1, q3]; rfl))
                  unfold gtr32 at q1
                  unfold lss32 at q3
                  go_wp2_with fail
                  go_quiet (fail)
                  all_goals
                    have hown := (HG1 nq).out
                    unfold Gr at hown
                    go_wp2_with (first
                      | (at_builtin; refine wpList_append_own _ rfl _ _ 38 rfl w.heap.size 22 i0 (.float .f32 0) 1 4 Try.underlying38 HI.out HZ0.out HZ1.out HZ2.out rfl (by decide) _ _ _ rfl (hown.alloc _) ⟨_, 0, none⟩ 1 1 [.float .f32 x] rfl rfl ?c1 ?c2 ?c3 ?c4 ?c5 ?_)
                      | fail)
                    case c1 =>
                      intro j u hj
                      match j, hj with
                      | 0, hj => simp at hj; subst hj; first | (simp [Addr.add]; done) | exact (World.cell?_alloc_at (w := wr.drewN nq) #[.float .f32 x] 22 wr.heap.size 0 rfl).trans rfl
                    case c2 => intro u hu; simp at hu; subst hu; rfl
                    case c3 => have := HLN.out; unfold maxLen; omega
                    case c4 => have := HLN.out; omega
                    case c5 => first | (have := (HB1 nq).out.size; simp; omega) | (have := HBW.out.size; simp; omega)
                    · intro v' w9 hown' hgrow _
                      have hown2 : w9.ownsRow w.heap.size 22 1 v' (ys.length + 1) (ys.map (Value.float .f32) ++ [.float .f32 x]) := by first | exact hown' | (rw [hN]; exact hown') | (rw [e5]; exact hown')
                      obtain ⟨g2, b2⟩ := Gr.next (by first | exact (HG1 nq).out | (rw [← hN] at *; exact (HG1 nq).out) | (have := (HG1 nq).out; rw [← e5] at this; exact HG.out)) (HB1 nq).out (Nat.le_refl _) hown2 hgrow
                      have HG9 := Lib.hid g2
                      have HB9 := Lib.hid b2
                      clear g2 b2 hown hown' hown2 hgrow
                      have HG10 : Hid (Gr w9 w.heap.size v' (enK xs (k + 1))) := Lib.hid (by rw [HE.out]; exact HG9.out)
                      go_wp2
                      go_roundw
                      case rel => exact ⟨k + 1, by omega, by go_num, HG10, HB9⟩
                      case measure => simp [intOf]; omega
                · skip
                  cases q4 : gtr32 l x
                  · skip
                    have HE := Lib.hid (HE3.out he0.out (by rw [q1, q3, q4]; rfl))
                    unfold gtr32 at q1
                    unfold lss32 at q3
                    unfold gtr32 at q4
                    go_wp2_with fail
                    go_quiet (fail)
                    all_goals
                      have hown := (HG1 nq).out
                      unfold Gr at hown
                      go_wp2_with (first
                        | (at_builtin; refine wpList_append_own _ rfl _ _ 38 rfl w.heap.size 22 i0 (.float .f32 0) 1 4 Try.underlying38 HI.out HZ0.out HZ1.out HZ2.out rfl (by decide) _ _ _ rfl (hown.alloc _) ⟨_, 0, none⟩ 1 1 [.float .f32 x] rfl rfl ?c1 ?c2 ?c3 ?c4 ?c5 ?_)
                        | fail)
                      case c1 =>
                        intro j u hj
                        match j, hj with
                        | 0, hj => simp at hj; subst hj; first | (simp [Addr.add]; done) | exact (World.cell?_alloc_at (w := wr.drewN nq) #[.float .f32 x] 22 wr.heap.size 0 rfl).trans rfl
                      case c2 => intro u hu; simp at hu; subst hu; rfl
                      case c3 => have := HLN.out; unfold maxLen; omega
                      case c4 => have := HLN.out; omega
                      case c5 => first | (have := (HB1 nq).out.size; simp; omega) | (have := HBW.out.size; simp; omega)
                      · intro v' w9 hown' hgrow _
                        have hown2 : w9.ownsRow w.heap.size 22 1 v' (ys.length + 1) (ys.map (Value.float .f32) ++ [.float .f32 x]) := by first | exact hown' | (rw [hN]; exact hown') | (rw [e5]; exact hown')
                        obtain ⟨g2, b2⟩ := Gr.next (by first | exact (HG1 nq).out | (rw [← hN] at *; exact (HG1 nq).out) | (have := (HG1 nq).out; rw [← e5] at this; exact HG.out)) (HB1 nq).out (Nat.le_refl _) hown2 hgrow
                        have HG9 := Lib.hid g2
                        have HB9 := Lib.hid b2
                        clear g2 b2 hown hown' hown2 hgrow
                        have HG10 : Hid (Gr w9 w.heap.size v' (enK xs (k + 1))) := Lib.hid (by rw [HE.out]; exact HG9.out)
                        go_wp2
                        go_roundw
                        case rel => exact ⟨k + 1, by omega, by go_num, HG10, HB9⟩
                        case measure => simp [intOf]; omega
                  · skip
                    have HE := Lib.hid (HE2.out he0.out (by rw [q1, q3, q4]; rfl))
                    unfold gtr32 at q1
                    unfold lss32 at q3
                    unfold gtr32 at q4
                    go_wp2_with fail
                    go_quiet (fail)
                    all_goals
                      have HG10 : Hid (Gr ((wr.drewN nq).setCell ⟨g, N - 1, none⟩ (.float .f32 x)) w.heap.size (.slice (some ⟨g, 0, none⟩) N cap') (enK xs (k + 1))) := Lib.hid (by rw [HE.out]; exact (HST1 nq).out)
                      go_wp2
                      go_roundw
                      case rel => exact ⟨k + 1, by omega, by go_num, HG10, HSB1 nq⟩
                      case measure => simp [intOf]; omega
              · skip
                cases q2 : lss32 l x
                · skip
                  cases q3 : lss32 l p
                  · skip
                    have HE := Lib.hid (HE3.out he0.out (by rw [q1, q2, q3]; rfl))
                    unfold gtr32 at q1
                    unfold lss32 at q2
                    unfold lss32 at q3
                    go_wp2_with fail
                    go_quiet (fail)
                    all_goals
                      have hown := (HG1 nq).out
                      unfold Gr at hown
                      go_wp2_with (first
                        | (at_builtin; refine wpList_append_own _ rfl _ _ 38 rfl w.heap.size 22 i0 (.float .f32 0) 1 4 Try.underlying38 HI.out HZ0.out HZ1.out HZ2.out rfl (by decide) _ _ _ rfl (hown.alloc _) ⟨_, 0, none⟩ 1 1 [.float .f32 x] rfl rfl ?c1 ?c2 ?c3 ?c4 ?c5 ?_)
                        | fail)
                      case c1 =>
                        intro j u hj
                        match j, hj with
                        | 0, hj => simp at hj; subst hj; first | (simp [Addr.add]; done) | exact (World.cell?_alloc_at (w := wr.drewN nq) #[.float .f32 x] 22 wr.heap.size 0 rfl).trans rfl
                      case c2 => intro u hu; simp at hu; subst hu; rfl
                      case c3 => have := HLN.out; unfold maxLen; omega
                      case c4 => have := HLN.out; omega
                      case c5 => first | (have := (HB1 nq).out.size; simp; omega) | (have := HBW.out.size; simp; omega)
                      · intro v' w9 hown' hgrow _
                        have hown2 : w9.ownsRow w.heap.size 22 1 v' (ys.length + 1) (ys.map (Value.float .f32) ++ [.float .f32 x]) := by first | exact hown' | (rw [hN]; exact hown') | (rw [e5]; exact hown')
                        obtain ⟨g2, b2⟩ := Gr.next (by first | exact (HG1 nq).out | (rw [← hN] at *; exact (HG1 nq).out) | (have := (HG1 nq).out; rw [← e5] at this; exact HG.out)) (HB1 nq).out (Nat.le_refl _) hown2 hgrow
                        have HG9 := Lib.hid g2
                        have HB9 := Lib.hid b2
                        clear g2 b2 hown hown' hown2 hgrow
                        have HG10 : Hid (Gr w9 w.heap.size v' (enK xs (k + 1))) := Lib.hid (by rw [HE.out]; exact HG9.out)
                        go_wp2
                        go_roundw
                        case rel => exact ⟨k + 1, by omega, by go_num, HG10, HB9⟩
                        case measure => simp [intOf]; omega
                  · skip
                    cases q4 : gtr32 l x
                    · skip
                      have HE := Lib.hid (HE3.out he0.out (by rw [q1, q2, q3, q4]; rfl))
                      unfold gtr32 at q1
                      unfold lss32 at q2
                      unfold lss32 at q3
                      unfold gtr32 at q4
                      go_wp2_with fail
                      go_quiet (fail)
                      all_goals
                        have hown := (HG1 nq).out
                        unfold Gr at hown
                        go_wp2_with (first
                          | (at_builtin; refine wpList_append_own _ rfl _ _ 38 rfl w.heap.size 22 i0 (.float .f32 0) 1 4 Try.underlying38 HI.out HZ0.out HZ1.out HZ2.out rfl (by decide) _ _ _ rfl (hown.alloc _) ⟨_, 0, none⟩ 1 1 [.float .f32 x] rfl rfl ?c1 ?c2 ?c3 ?c4 ?c5 ?_)
                          | fail)
                        case c1 =>
                          intro j u hj
                          match j, hj with
                          | 0, hj => simp at hj; subst hj; first | (simp [Addr.add]; done) | exact (World.cell?_alloc_at (w := wr.drewN nq) #[.float .f32 x] 22 wr.heap.size 0 rfl).trans rfl
                        case c2 => intro u hu; simp at hu; subst hu; rfl
                        case c3 => have := HLN.out; unfold maxLen; omega
                        case c4 => have := HLN.out; omega
                        case c5 => first | (have := (HB1 nq).out.size; simp; omega) | (have := HBW.out.size; simp; omega)
                        · intro v' w9 hown' hgrow _
                          have hown2 : w9.ownsRow w.heap.size 22 1 v' (ys.length + 1) (ys.map (Value.float .f32) ++ [.float .f32 x]) := by first | exact hown' | (rw [hN]; exact hown') | (rw [e5]; exact hown')
                          obtain ⟨g2, b2⟩ := Gr.next (by first | exact (HG1 nq).out | (rw [← hN] at *; exact (HG1 nq).out) | (have := (HG1 nq).out; rw [← e5] at this; exact HG.out)) (HB1 nq).out (Nat.le_refl _) hown2 hgrow
                          have HG9 := Lib.hid g2
                          have HB9 := Lib.hid b2
                          clear g2 b2 hown hown' hown2 hgrow
                          have HG10 : Hid (Gr w9 w.heap.size v' (enK xs (k + 1))) := Lib.hid (by rw [HE.out]; exact HG9.out)
                          go_wp2
                          go_roundw
                          case rel => exact ⟨k + 1, by omega, by go_num, HG10, HB9⟩
                          case measure => simp [intOf]; omega
                    · skip
                      have HE := Lib.hid (HE2.out he0.out (by rw [q1, q2, q3, q4]; rfl))
                      unfold gtr32 at q1
                      unfold lss32 at q2
                      unfold lss32 at q3
                      unfold gtr32 at q4
                      go_wp2_with fail
                      go_quiet (fail)
                      all_goals
                        have HG10 : Hid (Gr ((wr.drewN nq).setCell ⟨g, N - 1, none⟩ (.float .f32 x)) w.heap.size (.slice (some ⟨g, 0, none⟩) N cap') (enK xs (k + 1))) := Lib.hid (by rw [HE.out]; exact (HST1 nq).out)
                        go_wp2
                        go_roundw
                        case rel => exact ⟨k + 1, by omega, by go_num, HG10, HSB1 nq⟩
                        case measure => simp [intOf]; omega
                · skip
                  have HE := Lib.hid (HE2.out he0.out (by rw [q1, q2]; rfl))
                  unfold gtr32 at q1
                  unfold lss32 at q2
                  go_wp2_with fail
                  go_quiet (fail)
                  all_goals
                    have HG10 : Hid (Gr ((wr.drewN nq).setCell ⟨g, N - 1, none⟩ (.float .f32 x)) w.heap.size (.slice (some ⟨g, 0, none⟩) N cap') (enK xs (k + 1))) := Lib.hid (by rw [HE.out]; exact (HST1 nq).out)
                    go_wp2
                    go_roundw
                    case rel => exact ⟨k + 1, by omega, by go_num, HG10, HSB1 nq⟩
                    case measure => simp [intOf]; omega
            · have HE := Lib.hid (HE1.out he)
              unfold eqF at he
              have HG10 : Hid (Gr wr w.heap.size (.slice (some ⟨g, 0, none⟩) N cap') (enK xs (k + 1))) := Lib.hid (by rw [HE.out]; exact HGR.out)
              go_wp2
              go_roundw
              case rel => exact ⟨k + 1, by omega, by go_num, HG10, HBW⟩
              case measure => simp [intOf]; omega
          · have e0 : ys.length - 1 = 0 := by omega
            have e5 : ys.length = 1 := by omega
            have HE3 : Hid (eqF x (ys.getD (ys.length - 1) 0) = false → enK xs (k + 1) = ys ++ [x]) := Lib.hid (fun h => by rw [HK.out]; exact enStep_app (.inr h) (.inl (by omega)))
            generalize ys.getD (ys.length - 1) 0 = l at hc1 HE1 HE3
            have HG2 : ∀ n, Hid (Gr (wr.drewN n) w.heap.size (.slice (some ⟨g, 0, none⟩) 1 cap') ys) := fun n => Lib.hid (by have := (HG1 n).out; rw [e5] at this; exact this)
            have HGW : Hid (Gr wr w.heap.size (.slice (some ⟨g, 0, none⟩) 1 cap') ys) := Lib.hid (by have := HGR.out; rw [e5] at this; exact this)
            clear HP hfz h1 h2 HG1 HGR
            rw [e0] at hc1 e1
            rw [e5] at e1 hcap
            have HHL := Lib.hid hle
            clear hle
            rw [e5]
            cases he : eqF x l
            · have HE := Lib.hid (HE3.out he)
              unfold eqF at he
              go_wp2_with fail
              go_quiet (fail)
              all_goals
                have hown := (HG2 nq).out
                unfold Gr at hown
                go_wp2_with (first
                  | (at_builtin; refine wpList_append_own _ rfl _ _ 38 rfl w.heap.size 22 i0 (.float .f32 0) 1 4 Try.underlying38 HI.out HZ0.out HZ1.out HZ2.out rfl (by decide) _ _ _ rfl (hown.alloc _) ⟨_, 0, none⟩ 1 1 [.float .f32 x] rfl rfl ?c1 ?c2 ?c3 ?c4 ?c5 ?_)
                  | fail)
                case c1 =>
                  intro j u hj
                  match j, hj with
                  | 0, hj => simp at hj; subst hj; first | (simp [Addr.add]; done) | exact (World.cell?_alloc_at (w := wr.drewN nq) #[.float .f32 x] 22 wr.heap.size 0 rfl).trans rfl
                case c2 => intro u hu; simp at hu; subst hu; rfl
                case c3 => have := HLN.out; unfold maxLen; omega
                case c4 => have := HLN.out; omega
                case c5 => first | (have := (HB1 nq).out.size; simp; omega) | (have := HBW.out.size; simp; omega)
                · intro v' w9 hown' hgrow _
                  have hown2 : w9.ownsRow w.heap.size 22 1 v' (ys.length + 1) (ys.map (Value.float .f32) ++ [.float .f32 x]) := by first | exact hown' | (rw [hN]; exact hown') | (rw [e5]; exact hown')
                  obtain ⟨g2, b2⟩ := Gr.next (by first | exact (HG2 nq).out | (rw [← hN] at *; exact (HG2 nq).out) | (unfold Gr; rw [e5]; exact (HG2 nq).out)) (HB1 nq).out (Nat.le_refl _) hown2 hgrow
                  have HG9 := Lib.hid g2
                  have HB9 := Lib.hid b2
                  clear g2 b2 hown hown' hown2 hgrow
                  have HG10 : Hid (Gr w9 w.heap.size v' (enK xs (k + 1))) := Lib.hid (by rw [HE.out]; exact HG9.out)
                  go_wp2
                  go_roundw
                  case rel => exact ⟨k + 1, by omega, by go_num, HG10, HB9⟩
                  case measure => simp [intOf]; omega
            · have HE := Lib.hid (HE1.out he)
              unfold eqF at he
              have HG10 : Hid (Gr wr w.heap.size (.slice (some ⟨g, 0, none⟩) 1 cap') (enK xs (k + 1))) := Lib.hid (by rw [HE.out]; exact HGW.out)
              go_wp2
              go_roundw
              case rel => exact ⟨k + 1, by omega, by go_num, HG10, HBW⟩
              case measure => simp [intOf]; omega
        · have e5 : ys.length = 0 := by omega
          have hys : ys = [] := List.eq_nil_of_length_eq_zero e5
          subst hys
          have HE : Hid (enK xs (k + 1) = [] ++ [x]) := Lib.hid (by rw [HK.out]; exact enStep_app (.inl rfl) (.inl (Nat.zero_le _)))
          clear HP hfz
          go_wp2_with fail
          go_quiet (fail)
          all_goals
            have hown := (HG1 nq).out
            unfold Gr at hown
            go_wp2_with (first
              | (at_builtin; refine wpList_append_own _ rfl _ _ 38 rfl w.heap.size 22 i0 (.float .f32 0) 1 4 Try.underlying38 HI.out HZ0.out HZ1.out HZ2.out rfl (by decide) _ _ _ rfl (hown.alloc _) ⟨_, 0, none⟩ 1 1 [.float .f32 x] rfl rfl ?c1 ?c2 ?c3 ?c4 ?c5 ?_)
              | fail)
            case c1 =>
              intro j u hj
              match j, hj with
              | 0, hj => simp at hj; subst hj; first | (simp [Addr.add]; done) | exact (World.cell?_alloc_at (w := wr.drewN nq) #[.float .f32 x] 22 wr.heap.size 0 rfl).trans rfl
            case c2 => intro u hu; simp at hu; subst hu; rfl
            case c3 => have := HLN.out; unfold maxLen; omega
            case c4 => have := HLN.out; omega
            case c5 => first | (have := (HB1 nq).out.size; simp; omega) | (have := HBW.out.size; simp; omega)
            · intro v' w9 hown' hgrow _
              have hown2 : w9.ownsRow w.heap.size 22 1 v' (([] : List Nat).length + 1) (([] : List Nat).map (Value.float .f32) ++ [.float .f32 x]) := by first | exact hown' | (rw [hN]; exact hown') | (rw [e5]; exact hown')
              obtain ⟨g2, b2⟩ := Gr.next (by first | exact (HG1 nq).out | (rw [← hN] at *; exact (HG1 nq).out) | (have := (HG1 nq).out; rw [← e5] at this; exact HG.out)) (HB1 nq).out (Nat.le_refl _) hown2 hgrow
              have HG9 := Lib.hid g2
              have HB9 := Lib.hid b2
              clear g2 b2 hown hown' hown2 hgrow
              have HG10 : Hid (Gr w9 w.heap.size v' (enK xs (k + 1))) := Lib.hid (by rw [HE.out]; exact HG9.out)
              go_wp2
              go_roundw
              case rel => exact ⟨k + 1, by omega, by go_num, HG10, HB9⟩
              case measure => simp [intOf]; omega
    · have hkk : k = xs.length := by omega
      subst hkk
      go_wp2
      go_ret
      exact ⟨_, rfl, HGR.out, HBW.out⟩
theorem s_EndsOf (A : Option Addr) (cap : Nat) (xs : List Nat) (w : World) (h : Fl w A xs) (hn : xs.length ≤ 1048576) :
    Calls Try.prog 37 #[.slice A xs.length cap] w fun e w' => ∃ A' c g, e = .returned (.tuple #[.slice A' (endL xs).length c, .bool (endO xs)]) ∧ OwnO w' w.heap.size A' g (endL xs) ∧ Below w.heap.size w w' := by
  have HF := Lib.hid h; clear h
  go_enter Try.func37, Try.ntmps37
  go_wp2_with fail
  refine (s_l07Loads A cap xs _ HF.out hn).mono ?_
  rintro e w1 ⟨rfl, n1, hw⟩
  have B1 : Hid (Below w.heap.size w w1) := Lib.hid (by rw [hw]; exact below_draws (Below.refl _ _) _)
  have HS1 : Hid (w1.heap.size = w.heap.size) := Lib.hid (by rw [hw]; rfl)
  clear hw
  cases v : ldV xs
  · have HN : Hid (endO xs = false) := Lib.hid v
    have HL := Lib.hid (endL_no v)
    clear v
    go_wp2
    go_ret2
    exact ⟨none, 0, 0, by rw [HN.out, HL.out]; rfl, .inl HL.out, B1.out⟩
  · have V := Lib.hid v; clear v
    go_wp2_with fail
    refine (s_l07Ends A cap xs _ (HF.out.below B1.out) (ldV_len V.out).2).mono ?_
    rintro e w2 ⟨v2, rfl, hg, hb⟩
    have HY : Hid (endO xs = true) := Lib.hid V.out
    have HL := Lib.hid (endL_yes V.out)
    rw [← HL.out] at hg
    obtain ⟨A', cap', b', rfl, ho⟩ := hg.own
    have HO := Lib.hid ho
    have HB2 := Lib.hid (below_of B1.out B1.out.size hb)
    clear ho hg hb
    go_wp2
    go_ret2
    exact ⟨A', cap', b', by rw [HY.out]; rfl, by rw [← HS1.out]; exact HO.out, HB2.out⟩
theorem i_EndsOfO (A : Option Addr) (cap : Nat) (xs : List Nat) (w : World) (h : Fl w A xs) (hn : xs.length ≤ 1048576) :
    Calls Try.prog 38 #[.slice A xs.length cap] w fun e w' => ∃ A' c g, e = .returned (.tuple #[.slice A' (endL xs).length c, .bool (endO xs)]) ∧ OwnO w' w.heap.size A' g (endL xs) ∧ Below w.heap.size w w' :=
  (i_EndsOf A cap xs w h hn).mono fun _ _ ⟨A', c, g, he, ho, _, hb⟩ => ⟨A', c, g, he, ho, hb⟩
end Go.Proofs.Ytpchkedgjikpfaa
