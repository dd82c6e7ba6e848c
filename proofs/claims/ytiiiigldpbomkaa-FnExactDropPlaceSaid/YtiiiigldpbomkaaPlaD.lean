/- DropPlace: the specification's side. No statement is proved here. -/
import Derived.Test.YtiiiigldpbomkaaPlaS
import Derived.Deep.AppendLies
import Derived.Deep.RegionLaw
namespace Go.Proofs.Ytiiiigldpbomkaa
open Go Go.RowKit
theorem drop_same {xs : List Nat} {i k : Nat} (h : k < xs.length) (e : k = i) : (xs.take (k + 1)).eraseIdx i = (xs.take k).eraseIdx i := by
  subst e
  rw [List.eraseIdx_eq_take_drop_succ, List.eraseIdx_of_length_le (by simp; omega), List.take_take, List.drop_take]
  simp
theorem drop_more {xs : List Nat} {i k : Nat} (h : k < xs.length) (e : k ≠ i) : (xs.take (k + 1)).eraseIdx i = (xs.take k).eraseIdx i ++ [xs.getD k 0] := by
  have ht : xs.take (k + 1) = xs.take k ++ [xs.getD k 0] := by rw [List.take_add_one]; simp [List.getD, h]
  rw [ht]
  have hl : (xs.take k).length = k := by simp; omega
  by_cases hi : i < k
  · rw [List.eraseIdx_append_of_lt_length (by omega)]
  · rw [List.eraseIdx_of_length_le (by simp; omega), List.eraseIdx_of_length_le (by omega)]
theorem drop_len {xs : List Nat} {i k : Nat} (h : k ≤ xs.length) : ((xs.take k).eraseIdx i).length ≤ k := by
  have := List.length_eraseIdx_le (xs.take k) i
  simp at this
  omega
theorem OwnO.setF {w : World} {B0 b : Nat} {A : Option Addr} {xs : List Nat} (h : OwnO w B0 A b xs) {p : Addr} (hp : p.block < B0) (v : Value) : OwnO (w.setCell p v) B0 A b xs := by
  rcases h with h | ⟨h1, h2, h3⟩
  · exact .inl h
  · exact .inr ⟨h1, h2, h3.setCell (by omega) v⟩
theorem OwnO.baseF {w : World} {B0 B b : Nat} {A : Option Addr} {xs : List Nat} (h : OwnO w B0 A b xs) (hB : B ≤ B0) : OwnO w B A b xs := by
  rcases h with h | ⟨h1, h2, h3⟩
  · exact .inl h
  · exact .inr ⟨h1, Nat.le_trans hB h2, h3⟩
set_option maxHeartbeats 16000000 in
set_option maxRecDepth 100000 in
theorem s_DropPlace (X Y : Option Addr) (cx cy : Nat) (fx fy : List Nat) (fr fd fs : Nat) (i : Int) (w : World) (h : Rs w X Y fx fy) (hn : FewS fx fy) :
    Calls Try.prog 58 #[.agg #[.slice X fx.length cx, .slice Y fy.length cy, .float .f32 fr, .float .f32 fd, .float .f32 fs], .int .i64 i] w fun e w' => ∃ (R1 R2 : Option Addr) (c1 c2 g1 g2 : Nat), e = .returned (.tuple #[.agg #[.slice R1 (gL (plcO fx fy fr fd fs (hasF fx.length i) (fx.eraseIdx i.toNat) (fy.eraseIdx i.toNat)) (fx.eraseIdx i.toNat)).length c1, .slice R2 (gL (plcO fx fy fr fd fs (hasF fx.length i) (fx.eraseIdx i.toNat) (fy.eraseIdx i.toNat)) (fy.eraseIdx i.toNat)).length c2, .float .f32 (gF (plcO fx fy fr fd fs (hasF fx.length i) (fx.eraseIdx i.toNat) (fy.eraseIdx i.toNat)) fr), .float .f32 (gF (plcO fx fy fr fd fs (hasF fx.length i) (fx.eraseIdx i.toNat) (fy.eraseIdx i.toNat)) fd), .float .f32 (gF (plcO fx fy fr fd fs (hasF fx.length i) (fx.eraseIdx i.toNat) (fy.eraseIdx i.toNat)) fs)], .bool (plcO fx fy fr fd fs (hasF fx.length i) (fx.eraseIdx i.toNat) (fy.eraseIdx i.toNat))]) ∧ OwnR2 w' w.heap.size R1 R2 g1 g2 (gL (plcO fx fy fr fd fs (hasF fx.length i) (fx.eraseIdx i.toNat) (fy.eraseIdx i.toNat)) (fx.eraseIdx i.toNat)) (gL (plcO fx fy fr fd fs (hasF fx.length i) (fx.eraseIdx i.toNat) (fy.eraseIdx i.toNat)) (fy.eraseIdx i.toNat)) ∧ Below w.heap.size w w' := by
  obtain ⟨i0, hi, hz0, hz1, hz2⟩ := info_parts f32_info
  have HP := Lib.hid h; clear h
  have HON : Hid (frmV fx fy fr fd fs = false → plcO fx fy fr fd fs (hasF fx.length i) (fx.eraseIdx i.toNat) (fy.eraseIdx i.toNat) = false) := Lib.hid plcO_v
  have HOK : Hid (hasF fx.length i = false → plcO fx fy fr fd fs (hasF fx.length i) (fx.eraseIdx i.toNat) (fy.eraseIdx i.toNat) = false) := Lib.hid plcO_k
  have HOY : Hid (frmV fx fy fr fd fs = true → hasF fx.length i = true → plcO fx fy fr fd fs (hasF fx.length i) (fx.eraseIdx i.toNat) (fy.eraseIdx i.toNat) = frmV (fx.eraseIdx i.toNat) (fy.eraseIdx i.toNat) fr fd fs) := Lib.hid (fun h1 h2 => plcO_y h1 h2)
  generalize plcO fx fy fr fd fs (hasF fx.length i) (fx.eraseIdx i.toNat) (fy.eraseIdx i.toNat) = O at HON HOK HOY ⊢
  obtain ⟨X', HXE⟩ : ∃ z, Hid (z = (fx.eraseIdx i.toNat)) := ⟨_, rfl⟩
  obtain ⟨Y', HYE⟩ : ∃ z, Hid (z = (fy.eraseIdx i.toNat)) := ⟨_, rfl⟩
  rw [← HXE.out, ← HYE.out] at HOY ⊢
  obtain ⟨w0, hw0⟩ : ∃ x, x = (w.alloc (.cells #[.slice X fx.length cx, .slice Y fy.length cy, .float .f32 fr, .float .f32 fd, .float .f32 fs] 79)).alloc (.cells #[.slice none 0 0, .slice none 0 0, .float .f32 0, .float .f32 0, .float .f32 0] 79) := ⟨_, rfl⟩
  have K0 : Hid (BlkL w0 w.heap.size [.slice X fx.length cx, .slice Y fy.length cy, .float .f32 fr, .float .f32 fd, .float .f32 fs]) := Lib.hid (by rw [hw0]; exact (blkL_at w #[.slice X fx.length cx, .slice Y fy.length cy, .float .f32 fr, .float .f32 fd, .float .f32 fs] _ rfl).alloc _)
  have KR : Hid (BlkL w0 (w.heap.size + 1) [.slice none 0 0, .slice none 0 0, .float .f32 0, .float .f32 0, .float .f32 0]) := Lib.hid (by rw [hw0]; exact blkL_at (w.alloc _) #[.slice none 0 0, .slice none 0 0, .float .f32 0, .float .f32 0, .float .f32 0] _ (by simp))
  have B0 : Hid (Below w.heap.size w w0) := Lib.hid (by rw [hw0]; exact ((Below.refl _ _).alloc (Nat.le_refl _) _).alloc (by simp) _)
  have Z0 : Hid (w0.heap.size = w.heap.size + 2) := Lib.hid (by rw [hw0]; simp)
  go_enter Try.func58, Try.ntmps58
  go_wp2_with fail
  rw [← hw0]
  clear hw0
  refine (s_l06Has X Y cx cy fx fy fr fd fs i w.heap.size _ ⟨HP.out.1.below B0.out, HP.out.2.below B0.out⟩ hn K0.out).mono ?_
  rintro e w1 ⟨rfl, n1, hw⟩
  have b1 : Below w0.heap.size w0 w1 := by rw [hw]; exact below_draws (Below.refl _ _) _
  have L0 : Hid (BlkL w1 w.heap.size [.slice X fx.length cx, .slice Y fy.length cy, .float .f32 fr, .float .f32 fd, .float .f32 fs]) := Lib.hid (K0.out.below b1)
  have LR : Hid (BlkL w1 (w.heap.size + 1) [.slice none 0 0, .slice none 0 0, .float .f32 0, .float .f32 0, .float .f32 0]) := Lib.hid (KR.out.below b1)
  have B1 : Hid (Below w.heap.size w w1) := Lib.hid (below_of B0.out B0.out.size b1)
  have Z1 : Hid (w.heap.size + 2 ≤ w1.heap.size) := Lib.hid (by have := b1.size; have := Z0.out; omega)
  clear b1 hw K0 KR B0 Z0
  cases v0 : (frmV fx fy fr fd fs && hasF fx.length i)
  · have HN : Hid (O = false) := Lib.hid (by
      cases v1 : frmV fx fy fr fd fs
      · exact HON.out v1
      · rw [v1, Bool.true_and] at v0; exact HOK.out v0)
    clear v0
    have p0 := (LR.out.2 0 _ rfl).1
    have q0 := (LR.out.2 0 _ rfl).2
    have p1 := (LR.out.2 1 _ rfl).1
    have q1 := (LR.out.2 1 _ rfl).2
    have p2 := (LR.out.2 2 _ rfl).1
    have q2 := (LR.out.2 2 _ rfl).2
    have p3 := (LR.out.2 3 _ rfl).1
    have q3 := (LR.out.2 3 _ rfl).2
    have p4 := (LR.out.2 4 _ rfl).1
    have q4 := (LR.out.2 4 _ rfl).2
    go_wp2
    refine bodyPost_ret (v := .tuple #[.agg #[.slice none 0 0, .slice none 0 0, .float .f32 0, .float .f32 0, .float .f32 0], .bool false]) ?_ rfl ?_
    · simp [results, Try.results58, go_sem, p0, p1, p2, p3, p4]
    · rw [HN.out]
      exact ⟨none, none, 0, 0, 0, 1, rfl, ⟨.inl rfl, .inl rfl, by decide⟩, (((((B1.out).setCell (p := ⟨w.heap.size + 1, 0, none⟩) (by show w.heap.size ≤ w.heap.size + 1; omega) _).setCell (p := ⟨w.heap.size + 1, 1, none⟩) (by show w.heap.size ≤ w.heap.size + 1; omega) _).setCell (p := ⟨w.heap.size + 1, 2, none⟩) (by show w.heap.size ≤ w.heap.size + 1; omega) _).setCell (p := ⟨w.heap.size + 1, 3, none⟩) (by show w.heap.size ≤ w.heap.size + 1; omega) _).setCell (p := ⟨w.heap.size + 1, 4, none⟩) (by show w.heap.size ≤ w.heap.size + 1; omega) _⟩
  · obtain ⟨v1, hI⟩ := Bool.and_eq_true_iff.1 v0
    obtain ⟨hx, hx2, hy2⟩ := frmV_sized v1
    have hy : 1 ≤ fy.length := by omega
    have HO := Lib.hid (HOY.out v1 hI)
    unfold hasF at hI
    obtain ⟨k, hik⟩ : ∃ k : Nat, i = k := ⟨i.toNat, by have := of_decide_eq_true hI; omega⟩
    have hlt : k < fx.length := by have := of_decide_eq_true hI; omega
    have hlt2 : k < fy.length := by omega
    have hy12 : fy.length ≤ 12 := by omega
    have HYL : Hid (fy.length = fx.length) := Lib.hid hy2
    subst hik
    clear v0 v1 hI HON HOK HOY hy2
    have HXE' : Hid (X' = fx.eraseIdx k) := Lib.hid HXE.out
    have HYE' : Hid (Y' = fy.eraseIdx k) := Lib.hid HYE.out
    clear HXE HYE
    obtain ⟨BO, hBO⟩ : ∃ z, z = w1.heap.size + 2 := ⟨_, rfl⟩
    obtain ⟨wb, hwb⟩ : ∃ z, z = ((w1.alloc (.cells #[] 25)).alloc (.cells #[] 25)).alloc (.cells #[.slice (some ⟨w1.heap.size, 0, none⟩) 0 0, .slice (some ⟨w1.heap.size + 1, 0, none⟩) 0 0, .float .f32 fr, .float .f32 fd, .float .f32 fs] 79) := ⟨_, rfl⟩
    have HF0 : Hid (FG w1 wb BO (.slice (some ⟨w1.heap.size, 0, none⟩) 0 0) (.slice (some ⟨w1.heap.size + 1, 0, none⟩) 0 0) fr fd fs [] []) := Lib.hid (by
      rw [hwb, hBO]
      refine ⟨blkL_at ((w1.alloc _).alloc _) #[_, _, _, _, _] _ (by simp), ?_, ?_, ?_, ?_, ?_, (((Below.refl _ _).alloc (Nat.le_refl _) _).alloc (by simp) _).alloc (by simp; omega) _, by omega⟩
      · have h1 := Gr.made w1 w1.heap.size 0 #[] (Nat.le_refl _) (Nat.zero_le _) rfl
        exact (h1.below ((Below.refl _ _).alloc (Nat.le_refl _) _)).below ((Below.refl _ _).alloc (Nat.le_refl _) _)
      · have h1 := Gr.made (w1.alloc (.cells #[] 25)) w1.heap.size 0 #[] (by simp) (Nat.zero_le _) rfl
        rw [show (w1.alloc (.cells #[] 25)).heap.size = w1.heap.size + 1 by simp] at h1
        exact h1.below ((Below.refl _ _).alloc (Nat.le_refl _) _)
      · intro k hk hk'
        have hk : w1.heap.size = k := Option.some.inj hk
        have hk' : w1.heap.size + 1 = k := Option.some.inj hk'
        omega
      · intro hk
        have hk : w1.heap.size = w1.heap.size + 2 := Option.some.inj hk
        omega
      · intro hk
        have hk : w1.heap.size + 1 = w1.heap.size + 2 := Option.some.inj hk
        omega)
    obtain ⟨bA, oA, rfl, hbA, -⟩ := (HP.out.1.below B1.out).at_ (k := 0) (by omega)
    obtain ⟨bL, oL, rfl, hbL, -⟩ := (HP.out.2.below B1.out).at_ (k := 0) (by omega)
    have HBB : Hid (bA < w1.heap.size ∧ bL < w1.heap.size) := Lib.hid ⟨hbA, hbL⟩
    clear hbA hbL
    have m2 := fun o1 o2 => (((L0.out.alloc o1).alloc o2).2 2 _ rfl).1
    have m3 := fun o1 o2 => (((L0.out.alloc o1).alloc o2).2 3 _ rfl).1
    have m4 := fun o1 o2 => (((L0.out.alloc o1).alloc o2).2 4 _ rfl).1
    go_upto_region 4 with fail
    rw [show w1.heap.size + 1 + 1 = BO by omega, ← hwb]
    clear hwb m2 m3 m4 hBO
    go_wp2
    go_loopw [7] (fun j wr => ∃ (m : Nat) (v v' : Value), m ≤ fx.length ∧ j = .int .i64 m ∧ Hid (FG w1 wr BO v v' fr fd fs ((fx.take m).eraseIdx k) ((fy.take m).eraseIdx k))) (fun j _ => fx.length - (intOf j).toNat)
    case atStart => exact ⟨0, _, _, Nat.zero_le _, rfl, by simpa using HF0⟩
    case round =>
      obtain ⟨m, v, v', hm, rfl, HF⟩ := hrel
      clear HF0
      by_cases hml : m < fx.length
      · have hml2 : m < fy.length := by have := HYL.out; omega
        have kl := ((L0.out.below HF.out.below).2 0 _ rfl).1
        by_cases hmk : m = k
        · have hb : ((m : Int) != (k : Int)) = false := by simp [hmk]
          have HSX : Hid ((fx.take (m + 1)).eraseIdx k = (fx.take m).eraseIdx k) := Lib.hid (drop_same hml hmk)
          have HSY : Hid ((fy.take (m + 1)).eraseIdx k = (fy.take m).eraseIdx k) := Lib.hid (drop_same hml2 hmk)
          clear hmk
          go_wp2
          go_roundw
          case rel => exact ⟨m + 1, v, v', by omega, by go_num, by rw [HSX.out, HSY.out]; exact HF⟩
          case measure => simp [intOf]; omega
        · have hb : ((m : Int) != (k : Int)) = true := by simp; omega
          have HSX : Hid ((fx.take (m + 1)).eraseIdx k = (fx.take m).eraseIdx k ++ [fx.getD m 0]) := Lib.hid (drop_more hml hmk)
          have HSY : Hid ((fy.take (m + 1)).eraseIdx k = (fy.take m).eraseIdx k ++ [fy.getD m 0]) := Lib.hid (drop_more hml2 hmk)
          have HLL : Hid (((fx.take m).eraseIdx k).length ≤ 12 ∧ ((fy.take m).eraseIdx k).length ≤ 12) := Lib.hid (by
            have h1 := drop_len (i := k) (Nat.le_of_lt hml)
            have h2 := drop_len (i := k) (Nat.le_of_lt hml2)
            omega)
          have HC1 : Hid (∀ ww, Below w1.heap.size w1 ww → ww.cell? ⟨bA, oA + m, none⟩ = some (.float .f32 (fx.getD m 0))) := Lib.hid (fun ww hb => ((HP.out.1.below B1.out).below hb).same rfl hml)
          have HC2 : Hid (∀ ww, Below w1.heap.size w1 ww → ww.cell? ⟨bL, oL + m, none⟩ = some (.float .f32 (fy.getD m 0))) := Lib.hid (fun ww hb => ((HP.out.2.below B1.out).below hb).same rfl hml2)
          clear hmk
          generalize fx.getD m 0 = p at HSX HC1
          generalize fy.getD m 0 = q at HSY HC2
          generalize (fx.take m).eraseIdx k = xs at HF HSX HLL
          generalize (fy.take m).eraseIdx k = ys at HF HSY HLL
          obtain ⟨Av, cv, gv, rfl, -⟩ := HF.out.gx.own
          have LW1 := L0.out.below HF.out.below
          have hm1 : wr.cell? ⟨bA, oA + m, none⟩ = some (.float .f32 p) := HC1.out wr HF.out.below
          have kk1 := (LW1.2 0 _ rfl).1
          have ff1 := (HF.out.blk.2 0 _ rfl).1
          have fg1 := (HF.out.blk.2 0 _ rfl).2
          have ee1 : ((wr.alloc (.cells #[.float .f32 p] 25)).drew).cell? ⟨BO, 0, none⟩ = some (.slice Av xs.length cv) := ((HF.out.blk.alloc _).2 0 _ rfl).1
          have hn11 : BO ≠ wr.heap.size := by have := HF.out.blk.1; omega
          have hn21 : w.heap.size ≠ wr.heap.size := by have := LW1.1; omega
          have hn31 : bA ≠ wr.heap.size := by have := HF.out.below.size; have := HBB.out; omega
          have HFA1 : Hid (∀ o, World.ownsRow ((wr.drewN 1).alloc o) w1.heap.size 25 1 (.slice Av xs.length cv) xs.length (xs.map (Value.float .f32))) := Lib.hid (fun o => (HF.out.draws 1).gx.below ((Below.refl _ _).alloc (Nat.le_refl _) o))
          have hl631 : Hid (xs.length + 1 ≤ maxLen) := Lib.hid (by have := HLL.out; unfold maxLen; omega)
          have hl471 : Hid ((xs.length + 1) * 4 ≤ 140737488355328) := Lib.hid (by have := HLL.out; omega)
          have hlb1 : Hid (w1.heap.size ≤ wr.heap.size + 1) := Lib.hid (by have := HF.out.below.size; omega)
          have HPX1 := Lib.hid (fun (w9 : World) (g cap : Nat) (ho : w9.ownsRow w1.heap.size 25 1 (.slice (some ⟨g, 0, none⟩) (xs.length + 1) cap) (xs.length + 1) (xs.map (Value.float .f32) ++ [Value.float .f32 p])) (hg : ((wr.drewN 1).alloc (.cells #[.float .f32 p] 25)).grownBy w9 (Value.ownBlock (.slice Av xs.length cv))) (hat : Value.ownBlock (.slice Av xs.length cv) = some g ∨ g = wr.heap.size + 1) =>
            FG.putX (m := 1) (zs := [p]) (HF.out.draws 1) rfl (by simpa using ho) hg (by
              rcases hat with e | e
              · exact .inl e.symm
              · right; rw [e]; simp; rfl))
          have HMX1 := Lib.hid (fun (w9 : World) (hg : ((wr.drewN 1).alloc (.cells #[.float .f32 p] 25)).grownBy w9 (Value.ownBlock (.slice Av xs.length cv))) => (HF.out.draws 1).midX hg)
          clear LW1
          go_wp2
          go_region_law (refine step_append_lies _ rfl (.tmp 32) (.tmp 38) 22 rfl w1.heap.size 25 i0 (.float .f32 0) 1 4 Try.underlying22 hi hz0 hz1 hz2 rfl (by decide) (.slice Av xs.length cv) xs.length (xs.map (Value.float .f32)) (by simp [Act.eval, Act.put]) (HFA1.out _) ⟨wr.heap.size, 0, none⟩ 1 1 [.float .f32 p] (by simp [Act.eval, Act.put]) rfl (cell_one_new _ _ _) (by intro u hu; simp at hu; subst hu; rfl) (by decide) hl631.out hl471.out (by have := hlb1.out; simp; omega) (wr.heap.size + 1) (by simp) ?_; intro g1 cap1 w91 hown' hgrow hat hlt9; have HG1 := Lib.hid (HPX1.out w91 g1 cap1 hown' hgrow hat); have pp1 := ((HMX1.out w91 hgrow).2 0 _ rfl).1; have qq1 := ((HMX1.out w91 hgrow).2 0 _ rfl).2; clear hown' hgrow hat hlt9)
          all_goals
            clear kk1 ff1 fg1 ee1 hn11 hn21 hn31 HFA1 hl631 hl471 hlb1 HPX1 HMX1 hm1 pp1 qq1
            obtain ⟨wr2, hwr2⟩ : ∃ x, x = World.setCell w91 ⟨BO, 0, none⟩ (.slice (some ⟨g1, 0, none⟩) (xs.length + 1) cap1) := ⟨_, rfl⟩
            rw [← hwr2] at HG1 ⊢
            clear hwr2
            obtain ⟨Aw, cw, gw, rfl, -⟩ := HG1.out.gy.own
            have LW2 := L0.out.below HG1.out.below
            have hm2 : wr2.cell? ⟨bL, oL + m, none⟩ = some (.float .f32 q) := HC2.out wr2 HG1.out.below
            have kk2 := (LW2.2 1 _ rfl).1
            have ff2 := (HG1.out.blk.2 1 _ rfl).1
            have fg2 := (HG1.out.blk.2 1 _ rfl).2
            have ee2 : ((wr2.alloc (.cells #[.float .f32 q] 25)).drew).cell? ⟨BO, 1, none⟩ = some (.slice Aw ys.length cw) := ((HG1.out.blk.alloc _).2 1 _ rfl).1
            have hn12 : BO ≠ wr2.heap.size := by have := HG1.out.blk.1; omega
            have hn22 : w.heap.size ≠ wr2.heap.size := by have := LW2.1; omega
            have hn32 : bL ≠ wr2.heap.size := by have := HG1.out.below.size; have := HBB.out; omega
            have HFA2 : Hid (∀ o, World.ownsRow ((wr2.drewN 1).alloc o) w1.heap.size 25 1 (.slice Aw ys.length cw) ys.length (ys.map (Value.float .f32))) := Lib.hid (fun o => (HG1.out.draws 1).gy.below ((Below.refl _ _).alloc (Nat.le_refl _) o))
            have hl632 : Hid (ys.length + 1 ≤ maxLen) := Lib.hid (by have := HLL.out; unfold maxLen; omega)
            have hl472 : Hid ((ys.length + 1) * 4 ≤ 140737488355328) := Lib.hid (by have := HLL.out; omega)
            have hlb2 : Hid (w1.heap.size ≤ wr2.heap.size + 1) := Lib.hid (by have := HG1.out.below.size; omega)
            have HPX2 := Lib.hid (fun (w9 : World) (g cap : Nat) (ho : w9.ownsRow w1.heap.size 25 1 (.slice (some ⟨g, 0, none⟩) (ys.length + 1) cap) (ys.length + 1) (ys.map (Value.float .f32) ++ [Value.float .f32 q])) (hg : ((wr2.drewN 1).alloc (.cells #[.float .f32 q] 25)).grownBy w9 (Value.ownBlock (.slice Aw ys.length cw))) (hat : Value.ownBlock (.slice Aw ys.length cw) = some g ∨ g = wr2.heap.size + 1) =>
              FG.putY (m := 1) (zs := [q]) (HG1.out.draws 1) rfl (by simpa using ho) hg (by
                rcases hat with e | e
                · exact .inl e.symm
                · right; rw [e]; simp; rfl))
            have HMX2 := Lib.hid (fun (w9 : World) (hg : ((wr2.drewN 1).alloc (.cells #[.float .f32 q] 25)).grownBy w9 (Value.ownBlock (.slice Aw ys.length cw))) => (HG1.out.draws 1).midY hg)
            clear LW2
            go_wp2
            go_region_law (refine step_append_lies _ rfl (.tmp 42) (.tmp 48) 22 rfl w1.heap.size 25 i0 (.float .f32 0) 1 4 Try.underlying22 hi hz0 hz1 hz2 rfl (by decide) (.slice Aw ys.length cw) ys.length (ys.map (Value.float .f32)) (by simp [Act.eval, Act.put]) (HFA2.out _) ⟨wr2.heap.size, 0, none⟩ 1 1 [.float .f32 q] (by simp [Act.eval, Act.put]) rfl (cell_one_new _ _ _) (by intro u hu; simp at hu; subst hu; rfl) (by decide) hl632.out hl472.out (by have := hlb2.out; simp; omega) (wr2.heap.size + 1) (by simp) ?_; intro g2 cap2 w92 hown' hgrow hat hlt9; have HG2 := Lib.hid (HPX2.out w92 g2 cap2 hown' hgrow hat); have pp2 := ((HMX2.out w92 hgrow).2 1 _ rfl).1; have qq2 := ((HMX2.out w92 hgrow).2 1 _ rfl).2; clear hown' hgrow hat hlt9)
            all_goals
              clear kk2 ff2 fg2 ee2 hn12 hn22 hn32 HFA2 hl632 hl472 hlb2 HPX2 HMX2 hm2 pp2 qq2
              go_wp2
              go_roundw
              case rel => exact ⟨m + 1, _, _, by omega, by go_num, by rw [HSX.out, HSY.out]; exact HG2⟩
              case measure => simp [intOf]; omega
      · have hkk : m = fx.length := by omega
        subst hkk
        rw [List.take_length, ← HYL.out, List.take_length, ← HXE'.out, ← HYE'.out] at HF
        have HLX : Hid (X'.length ≤ 12) := Lib.hid (by rw [HXE'.out]; have := List.length_eraseIdx_le fx k; omega)
        have HLY : Hid (Y'.length ≤ 12) := Lib.hid (by rw [HYE'.out]; have := List.length_eraseIdx_le fy k; omega)
        have HSM : Hid (X'.length ≤ 12) := HLX
        obtain ⟨Av, cv, gv, rfl, hox⟩ := HF.out.gx.own
        obtain ⟨Aw, cw, gw, rfl, hoy⟩ := HF.out.gy.own
        have HOX := Lib.hid hox
        have HOY := Lib.hid hoy
        have HNV : Hid (X' ≠ [] → Y' ≠ [] → gv ≠ gw) := Lib.hid (fun h1 h2 e => by
          rcases hox with h | ⟨rfl, -, -⟩
          · exact h1 h
          · rcases hoy with h | ⟨rfl, -, -⟩
            · exact h2 h
            · exact HF.out.nv gv rfl (by rw [e]; rfl))
        have HBL := Lib.hid HF.out.blk
        have BR : Hid (Below w.heap.size w wr) := Lib.hid (below_of B1.out B1.out.size HF.out.below)
        have LRR : Hid (BlkL wr (w.heap.size + 1) [.slice none 0 0, .slice none 0 0, .float .f32 0, .float .f32 0, .float .f32 0]) := Lib.hid (LR.out.below HF.out.below)
        have kl := ((L0.out.below HF.out.below).2 0 _ rfl).1
        clear hox hoy HXE' HYE' HF L0 LR
        have HFW : Hid (FewS X' Y') := Lib.hid (by have := HLX.out; have := HLY.out; have := HSM.out; unfold FewS; omega)
        obtain ⟨k0, k1, k2, k3, k4⟩ := HBL.out.five
        cases v : frmV X' Y' fr fd fs
        · have HN : Hid (O = false) := Lib.hid (by rw [HO.out, v])
          have HE := Lib.hid (s_l06Give_no Av Aw cv cw X' Y' fr fd fs wr ⟨HOX.out.fl, HOY.out.fl⟩ HFW.out v)
          clear v
          go_wp2_with fail
          refine HE.out.mono ?_
          rintro e w6 ⟨rfl, b6⟩
          have B6 : Hid (Below w.heap.size w w6) := Lib.hid (below_of BR.out BR.out.size b6)
          have LR6 : Hid (BlkL w6 (w.heap.size + 1) [.slice none 0 0, .slice none 0 0, .float .f32 0, .float .f32 0, .float .f32 0]) := Lib.hid (LRR.out.below b6)
          have HX6 := Lib.hid (HOX.out.below b6)
          have HY6 := Lib.hid (HOY.out.below b6)
          clear b6 k0 k1 k2 k3 k4
          have p0 := (LR6.out.2 0 _ rfl).1
          have q0 := (LR6.out.2 0 _ rfl).2
          have p1 := (LR6.out.2 1 _ rfl).1
          have q1 := (LR6.out.2 1 _ rfl).2
          have p2 := (LR6.out.2 2 _ rfl).1
          have q2 := (LR6.out.2 2 _ rfl).2
          have p3 := (LR6.out.2 3 _ rfl).1
          have q3 := (LR6.out.2 3 _ rfl).2
          have p4 := (LR6.out.2 4 _ rfl).1
          have q4 := (LR6.out.2 4 _ rfl).2
          go_wp2
          refine bodyPost_ret (v := .tuple #[.agg #[.slice none 0 0, .slice none 0 0, .float .f32 0, .float .f32 0, .float .f32 0], .bool false]) ?_ rfl ?_
          · simp [results, Try.results58, go_sem, p0, p1, p2, p3, p4]
          · rw [HN.out]
            exact ⟨none, none, 0, 0, 0, 1, rfl, ⟨.inl rfl, .inl rfl, by decide⟩, (((((B6.out).setCell (p := ⟨w.heap.size + 1, 0, none⟩) (by show w.heap.size ≤ w.heap.size + 1; omega) _).setCell (p := ⟨w.heap.size + 1, 1, none⟩) (by show w.heap.size ≤ w.heap.size + 1; omega) _).setCell (p := ⟨w.heap.size + 1, 2, none⟩) (by show w.heap.size ≤ w.heap.size + 1; omega) _).setCell (p := ⟨w.heap.size + 1, 3, none⟩) (by show w.heap.size ≤ w.heap.size + 1; omega) _).setCell (p := ⟨w.heap.size + 1, 4, none⟩) (by show w.heap.size ≤ w.heap.size + 1; omega) _⟩
        · have HN : Hid (O = true) := Lib.hid (by rw [HO.out, v])
          have HE := Lib.hid (s_l06Give_yes Av Aw cv cw X' Y' fr fd fs wr ⟨HOX.out.fl, HOY.out.fl⟩ HFW.out v)
          have HNE : Hid (X' ≠ [] ∧ Y' ≠ []) := Lib.hid (by obtain ⟨h1, h2, h3⟩ := frmV_sized v; exact ⟨fun e => by rw [e] at h1; simp at h1, fun e => by rw [e] at h3; simp at h3; rw [← h3] at h1; simp at h1⟩)
          clear v
          go_wp2_with fail
          refine HE.out.mono ?_
          rintro e w6 ⟨rfl, b6⟩
          have B6 : Hid (Below w.heap.size w w6) := Lib.hid (below_of BR.out BR.out.size b6)
          have LR6 : Hid (BlkL w6 (w.heap.size + 1) [.slice none 0 0, .slice none 0 0, .float .f32 0, .float .f32 0, .float .f32 0]) := Lib.hid (LRR.out.below b6)
          have HX6 := Lib.hid (HOX.out.below b6)
          have HY6 := Lib.hid (HOY.out.below b6)
          clear b6 k0 k1 k2 k3 k4
          have p0 := (LR6.out.2 0 _ rfl).1
          have q0 := (LR6.out.2 0 _ rfl).2
          have p1 := (LR6.out.2 1 _ rfl).1
          have q1 := (LR6.out.2 1 _ rfl).2
          have p2 := (LR6.out.2 2 _ rfl).1
          have q2 := (LR6.out.2 2 _ rfl).2
          have p3 := (LR6.out.2 3 _ rfl).1
          have q3 := (LR6.out.2 3 _ rfl).2
          have p4 := (LR6.out.2 4 _ rfl).1
          have q4 := (LR6.out.2 4 _ rfl).2
          go_wp2
          refine bodyPost_ret (v := .tuple #[.agg #[.slice Av X'.length cv, .slice Aw Y'.length cw, .float .f32 fr, .float .f32 fd, .float .f32 fs], .bool true]) ?_ rfl ?_
          · simp [results, Try.results58, go_sem, p0, p1, p2, p3, p4]
          · have z1 := Z1.out
            rw [HN.out]
            exact ⟨Av, Aw, cv, cw, gv, gw, rfl, ⟨((((((HX6.out).setF (p := ⟨w.heap.size + 1, 0, none⟩) (by have := Z1.out; show w.heap.size + 1 < _; omega) _).setF (p := ⟨w.heap.size + 1, 1, none⟩) (by have := Z1.out; show w.heap.size + 1 < _; omega) _).setF (p := ⟨w.heap.size + 1, 2, none⟩) (by have := Z1.out; show w.heap.size + 1 < _; omega) _).setF (p := ⟨w.heap.size + 1, 3, none⟩) (by have := Z1.out; show w.heap.size + 1 < _; omega) _).setF (p := ⟨w.heap.size + 1, 4, none⟩) (by have := Z1.out; show w.heap.size + 1 < _; omega) _).baseF (by omega), ((((((HY6.out).setF (p := ⟨w.heap.size + 1, 0, none⟩) (by have := Z1.out; show w.heap.size + 1 < _; omega) _).setF (p := ⟨w.heap.size + 1, 1, none⟩) (by have := Z1.out; show w.heap.size + 1 < _; omega) _).setF (p := ⟨w.heap.size + 1, 2, none⟩) (by have := Z1.out; show w.heap.size + 1 < _; omega) _).setF (p := ⟨w.heap.size + 1, 3, none⟩) (by have := Z1.out; show w.heap.size + 1 < _; omega) _).setF (p := ⟨w.heap.size + 1, 4, none⟩) (by have := Z1.out; show w.heap.size + 1 < _; omega) _).baseF (by omega), HNV.out HNE.out.1 HNE.out.2⟩, (((((B6.out).setCell (p := ⟨w.heap.size + 1, 0, none⟩) (by show w.heap.size ≤ w.heap.size + 1; omega) _).setCell (p := ⟨w.heap.size + 1, 1, none⟩) (by show w.heap.size ≤ w.heap.size + 1; omega) _).setCell (p := ⟨w.heap.size + 1, 2, none⟩) (by show w.heap.size ≤ w.heap.size + 1; omega) _).setCell (p := ⟨w.heap.size + 1, 3, none⟩) (by show w.heap.size ≤ w.heap.size + 1; omega) _).setCell (p := ⟨w.heap.size + 1, 4, none⟩) (by show w.heap.size ≤ w.heap.size + 1; omega) _⟩
end Go.Proofs.Ytiiiigldpbomkaa
