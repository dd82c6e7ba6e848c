/- The worst of loads: the program's side. No statement is proved here. -/
import Derived.Test.YtpmjikchlofebaaWlM
import Derived.Deep.Cut
import Derived.Test.YtpmjikchlofebaaInv5
namespace Go.Proofs.Ytpmjikchlofebaa
open Go Go.RowKit
theorem FlNewI.belowW {w wr w' : World} {B n k : Nat} {xs : List Int} (h : FlNewI w wr B n k xs) (hb : Below wr.heap.size wr w') : FlNewI w w' B n k xs :=
  ⟨below_of h.1 h.1.size hb, h.2.1, Nat.lt_of_lt_of_le h.2.2.1 hb.size, fun j hj => ⟨by rw [hb.cell (p := ⟨B, j, none⟩) h.2.2.1]; exact (h.2.2.2 j hj).1, by rw [hb.frozen (p := ⟨B, j, none⟩) h.2.2.1]; exact (h.2.2.2 j hj).2⟩⟩
theorem list_eq_map {ys : List Nat} {q : Nat → Nat} {n : Nat} (hl : ys.length = n) (h : ∀ k, k < n → ys.getD k 0 = q k) : ys = (List.range n).map q := by
  apply List.ext_getElem
  · simp [hl]
  · intro j h1 h2
    have e := h j (by omega)
    have eq : ys.getD j 0 = ys[j] := by simp [List.getD, h1]
    rw [eq] at e
    simp [e]
set_option maxHeartbeats 8000000 in
set_option maxRecDepth 100000 in
theorem i_WorstLoads (A : Option Addr) (cap : Nat) (ls : List (List Nat)) (w : World) (h : FlLL w A ls) (hn : totL ls ≤ 1048576) :
    Calls Try.prog 36 #[.slice A ls.length cap] w fun e w' => ∃ A1 c1 g1 A2 c2 g2, e = .returned (.tuple #[.slice A1 (wlA ls).length c1, .slice A2 (wlW ls).length c2, .bool (wlC ls)]) ∧ OwnW w' w.heap.size A1 A2 g1 g2 ls ∧ Below w.heap.size w w' := by
  have HF := Lib.hid h; clear h
  obtain ⟨w0, hw0⟩ : ∃ z, z = w.alloc (.cells #[.slice A ls.length cap] 58) := ⟨_, rfl⟩
  have B0 : Hid (Below w.heap.size w w0) := Lib.hid (by rw [hw0]; exact (Below.refl _ _).alloc (Nat.le_refl _) _)
  have Z0 : Hid (w0.heap.size = w.heap.size + 1) := Lib.hid (by rw [hw0]; simp)
  have K0 : Hid (w0.cell? ⟨w.heap.size, 0, none⟩ = some (.slice A ls.length cap)) := Lib.hid (by rw [hw0]; exact ((blkL_at w #[.slice A ls.length cap] 58 rfl).2 0 _ rfl).1)
  have k0 := K0.out
  have HCA := Lib.hid (i_areListsOfLoads A cap ls w0 (HF.out.below B0.out) hn)
  clear hn
  go_enter Try.func36, Try.ntmps36
  go_wp2_with fail
  rw [← hw0]
  go_wp2_with fail
  clear hw0
  refine HCA.out.mono ?_
  rintro e w1 ⟨he, b1⟩
  subst he
  have B1 : Hid (Below w.heap.size w w1) := Lib.hid (below_of B0.out B0.out.size b1)
  have Z1 : Hid (w.heap.size < w1.heap.size) := Lib.hid (by have := b1.size; have := Z0.out; omega)
  have k1 : w1.cell? ⟨w.heap.size, 0, none⟩ = some (.slice A ls.length cap) := by rw [b1.cell (p := ⟨w.heap.size, 0, none⟩) (by have := Z0.out; show w.heap.size < _; omega)]; exact K0.out
  clear b1 k0 HCA K0
  cases hv : wlC ls
  · have HV := Lib.hid hv
    clear hv
    go_wp2
    refine bodyPost_ret (results_tmp3 rfl _ _ _) rfl ?_
    exact ⟨none, 0, 0, none, 0, 0, by rw [HV.out, wlA_no HV.out, wlW_no HV.out]; rfl, OwnW.no HV.out, B1.out⟩
  · obtain ⟨l1, l2⟩ := wlC_len hv
    obtain ⟨r1, r2⟩ := wlC_row0 hv
    have HV := Lib.hid hv
    clear hv
    obtain ⟨b, off, A0, c0, rfl, hb, hc, hfl0⟩ := (HF.out.below B1.out).at_ (show 0 < ls.length by omega)
    have hc0 : w1.cell? ⟨b, off, none⟩ = some (.slice A0 (rowL ls 0).length c0) := hc
    have HN : Hid (wlN ls = (rowL ls 0).length) := Lib.hid (wlN_yes HV.out)
    have hlen : 0 < ls.length := by omega
    clear hc hfl0
    obtain ⟨n0, hn0⟩ : ∃ z, z = (rowL ls 0).length := ⟨_, rfl⟩
    rw [← hn0] at hc0 r1 r2 HN
    have HN0 := Lib.hid hn0
    clear hn0
    have hmk := make_i64 n0 w1 (by omega)
    have HWA : Hid (wlA ls = (List.range n0).map (wlX ls)) := Lib.hid (by unfold wlA; rw [HN.out])
    have HWW : Hid (wlW ls = (List.range n0).map fun k => ((wlI ls k ls.length : Nat) : Int)) := Lib.hid (by unfold wlW; rw [HN.out])
    have HROW : Hid (∀ i, i < ls.length → (rowL ls i).length = n0) := Lib.hid (fun i hi => by rw [wlC_row HV.out hi, HN0.out])
    obtain ⟨w2, hw2⟩ : ∃ z, z = (w1.alloc (.cells (madeCells #[.int .i64 0] n0) 2)).alloc (.cells #[.slice (some ⟨w1.heap.size, 0, none⟩) n0 n0] 60) := ⟨_, rfl⟩
    have HNW : Hid (FlNewI w1 w2 w1.heap.size n0 0 (wlW ls)) := Lib.hid (by rw [hw2]; exact (FlNewI.start w1 n0 2 (wlW ls)).belowW ((Below.refl _ _).alloc (Nat.le_refl _) _))
    have HGB : Hid (w2.cell? ⟨w1.heap.size + 1, 0, none⟩ = some (.slice (some ⟨w1.heap.size, 0, none⟩) n0 n0)) := Lib.hid (by rw [hw2]; simp)
    have HGL : Hid (w1.heap.size + 1 < w2.heap.size) := Lib.hid (by rw [hw2]; simp)
    go_upto_region 4 with fail
    rw [← hw2]
    clear hw2 hmk hc0 hb
    have g0 := HGB.out
    go_wp2
    clear g0
    go_loopw [18] (fun i wr => ∃ k : Nat, k ≤ n0 ∧ i = .int .i64 k ∧ Hid (FlNewI w1 wr w1.heap.size n0 k (wlW ls)) ∧ Hid (wr.cell? ⟨w1.heap.size + 1, 0, none⟩ = some (.slice (some ⟨w1.heap.size, 0, none⟩) n0 n0)) ∧ Hid (w1.heap.size + 1 < wr.heap.size)) (fun i _ => n0 - (intOf i).toNat)
    case atStart => exact ⟨0, Nat.zero_le _, rfl, HNW, HGB, HGL⟩
    case round =>
      clear HNW HGB HGL
      obtain ⟨k, hk, rfl, HNW, HGB, HGL⟩ := hrel
      have BW : Hid (Below w.heap.size w wr) := Lib.hid (below_of B1.out B1.out.size HNW.out.1)
      by_cases hlt : k < n0
      · have k2 : wr.cell? ⟨w.heap.size, 0, none⟩ = some (.slice (some ⟨b, off, none⟩) ls.length cap) := by rw [HNW.out.1.cell (p := ⟨w.heap.size, 0, none⟩) Z1.out]; exact k1
        obtain ⟨w3, hw3⟩ : ∃ z, z = wr.alloc (.cells #[.int .i64 (k : Int)] 3) := ⟨_, rfl⟩
        have B3 : Hid (Below wr.heap.size wr w3) := Lib.hid (by rw [hw3]; exact (Below.refl _ _).alloc (Nat.le_refl _) _)
        have k3 : w3.cell? ⟨wr.heap.size, 0, none⟩ = some (.int .i64 (k : Int)) := by rw [hw3]; exact ((blkL_at wr #[.int .i64 (k : Int)] 3 rfl).2 0 _ rfl).1
        have k4 : w3.cell? ⟨w.heap.size, 0, none⟩ = some (.slice (some ⟨b, off, none⟩) ls.length cap) := by rw [B3.out.cell (p := ⟨w.heap.size, 0, none⟩) (by have := BW.out.size; have := Z1.out; have := HGL.out; show w.heap.size < _; omega)]; exact k2
        have HLS := Lib.hid (i_leastW wr.heap.size k (some ⟨b, off, none⟩) cap ls w3 (HF.out.below (below_of BW.out BW.out.size B3.out)) k3 (fun i hi => by rw [HROW.out i hi]; exact hlt) l1 l2)
        have HLT := Lib.hid hlt
        go_upto_region 7 with fail
        rw [← hw3]
        clear hw3 k2
        go_wp2_with fail
        refine HLS.out.mono ?_
        rintro e w4 ⟨n4, he, hw4⟩
        subst he
        have B4 : Hid (Below wr.heap.size wr w4) := Lib.hid (by rw [hw4]; exact below_draws B3.out _)
        have m3 : w4.cell? ⟨wr.heap.size, 0, none⟩ = some (.int .i64 (k : Int)) := by rw [hw4]; exact k3
        have m5 : w4.cell? ⟨w1.heap.size + 1, 0, none⟩ = some (.slice (some ⟨w1.heap.size, 0, none⟩) n0 n0) := by rw [B4.out.cell (p := ⟨w1.heap.size + 1, 0, none⟩) HGL.out]; exact HGB.out
        have HN4 := Lib.hid (HNW.out.belowW B4.out)
        obtain ⟨c1, c2⟩ := HN4.out.2.2.2 k hlt
        have HST := Lib.hid (HN4.out.step hlt)
        have HVK : Hid ((wlW ls).getD k 0 = ((wlI ls k ls.length : Nat) : Int)) := Lib.hid (by rw [HWW.out]; simp [List.getD, hlt])
        rw [HVK.out] at HST
        have HGB2 : Hid ((w4.setCell ⟨w1.heap.size, k, none⟩ (.int .i64 ((wlI ls k ls.length : Nat) : Int))).cell? ⟨w1.heap.size + 1, 0, none⟩ = some (.slice (some ⟨w1.heap.size, 0, none⟩) n0 n0)) := Lib.hid (by rw [World.cell?_setCell_other (h := by intro hh; simp only [Addr.mk.injEq] at hh; omega)]; exact m5)
        have HGL2 : Hid (w1.heap.size + 1 < (w4.setCell ⟨w1.heap.size, k, none⟩ (.int .i64 ((wlI ls k ls.length : Nat) : Int))).heap.size) := Lib.hid (by have := HGL.out; have := B4.out.size; simp [World.setCell]; omega)
        clear HLS k3 k4 hw4 HNW HN4 HGB HVK B3
        generalize wlI ls k ls.length = j at *
        go_wp2
        go_roundw
        case rel => exact ⟨k + 1, by have := HLT.out; omega, by go_num, HST, HGB2, HGL2⟩
        case measure => have := HLT.out; simp [intOf]; omega
      · have hkk : k = n0 := by omega
        have HOW : Hid (OwnI wr w1.heap.size (wlW ls)) := Lib.hid (by
          have h := HNW.out
          have e : n0 = (wlW ls).length := by rw [wlW_len, HN.out]
          rw [e] at h
          exact OwnI.of_new h (by omega))
        have HCL : Hid (∀ k, k < n0 → ∀ W, Below wr.heap.size wr W → Calls Try.prog 104 #[.int .i64 k, .pointer (some ⟨w.heap.size, 0, none⟩), .pointer (some ⟨(w1.heap.size + 1), 0, none⟩)] W fun e w' => e = .returned (.float .f32 (wlX ls k)) ∧ Below W.heap.size W w') := Lib.hid (fun i hi W hW => by
          have bw := below_of BW.out BW.out.size hW
          have hz : w.heap.size < wr.heap.size := by have := Z1.out; have := HGL.out; omega
          have c1 : W.cell? ⟨w.heap.size, 0, none⟩ = some (.slice (some ⟨b, off, none⟩) ls.length cap) := by
            rw [hW.cell (p := ⟨w.heap.size, 0, none⟩) hz, HNW.out.1.cell (p := ⟨w.heap.size, 0, none⟩) Z1.out]; exact k1
          have c2 : W.cell? ⟨w1.heap.size + 1, 0, none⟩ = some (.slice (some ⟨w1.heap.size, 0, none⟩) n0 n0) := by
            rw [hW.cell (p := ⟨w1.heap.size + 1, 0, none⟩) HGL.out]; exact HGB.out
          have c3 : W.cell? ⟨w1.heap.size, i, none⟩ = some (.int .i64 ((wlI ls i ls.length : Nat) : Int)) := by
            rw [hW.cell (p := ⟨w1.heap.size, i, none⟩) HOW.out.1, (HOW.out.2 i (by rw [wlW_len, HN.out]; exact hi)).1, HWW.out]
            simp [List.getD, hi]
          have hj := wlI_lt (k := i) l1 ls.length (Nat.le_refl _)
          exact i_wl2 w.heap.size (w1.heap.size + 1) w1.heap.size i (wlI ls i ls.length) n0 n0 _ cap ls W (HF.out.below bw) c1 c2 hi c3 hj (by rw [HROW.out _ hj]; exact hi))
        clear k1 HNW HF HROW
        go_upto_region 10 with fail
        refine wp_region_inv5 (fun iq wv v => match iq with
          | 0 => v = .slice (some ⟨w1.heap.size, 0, none⟩) n0 n0
          | 1 => v = .int .i64 n0
          | 2 => v = .func (.func 104) #[] #[.pointer (some ⟨w.heap.size, 0, none⟩), .pointer (some ⟨(w1.heap.size + 1), 0, none⟩)]
          | 3 => ∃ B, v = .slice (some ⟨B, 0, none⟩) n0 n0 ∧ wr.heap.size ≤ B ∧ Own wv B (wlA ls)
          | 4 => v = .slice (some ⟨w1.heap.size, 0, none⟩) n0 n0
          | 5 => ∃ B, v = .slice (some ⟨B, 0, none⟩) n0 n0 ∧ wr.heap.size ≤ B ∧ Own wv B (wlA ls)
          | 6 => v = .slice (some ⟨w1.heap.size, 0, none⟩) n0 n0
          | 7 => v = .bool true
          | _ => False) (fun _ ww => Below wr.heap.size wr ww) (fun w w' => Below w.heap.size w w') ?hmono (by kernel_rfl) (by kernel_rfl) ((Below.refl _ _).drew) ?hop ?hend
        case hmono =>
          intro i wa wb v hR hV
          rcases i with _ | _ | _ | _ | _ | _ | _ | _ | i
          · exact hV
          · exact hV
          · exact hV
          · obtain ⟨B, rfl, hl, ho⟩ := hV; exact ⟨B, rfl, hl, ho.below hR⟩
          · exact hV
          · obtain ⟨B, rfl, hl, ho⟩ := hV; exact ⟨B, rfl, hl, ho.below hR⟩
          · exact hV
          · exact hV
          · exact hV
        case hop =>
          intro q o hq listed act w3 hI hnot hcl hall
          have hB := hI.cls
          have m5 : w3.cell? ⟨(w1.heap.size + 1), 0, none⟩ = some (.slice (some ⟨w1.heap.size, 0, none⟩) n0 n0) := by rw [hB.cell (p := ⟨w1.heap.size + 1, 0, none⟩) HGL.out]; exact HGB.out
          rcases q with _ | _ | _ | _ | _ | _ | _ | _ | q
          · simp at hq; subst hq
            have g5 : act.tmps[5]?.getD undef = .pointer (some ⟨(w1.heap.size + 1), 0, none⟩) := hI.kept 5 (by kernel_rfl)
            clear hI hall hnot hcl
            refine .inl ⟨wanted_none rfl, ?_⟩
            unfold Oper.wp
            go_simp
            all_goals first | exact ⟨_, rfl, Below.refl _ _, rfl, hB⟩ | exact ⟨Below.refl _ _, hB⟩ | exact Below.refl _ _
          · simp at hq; subst hq
            have g29 : act.tmps[29]?.getD undef = .slice (some ⟨w1.heap.size, 0, none⟩) n0 n0 := hI.has 0 29 rfl (hall ⟨0, .data⟩ (by simp) rfl)
            clear hI hall hnot hcl
            refine .inl ⟨wanted_none rfl, ?_⟩
            unfold Oper.wp
            go_simp
            all_goals first | exact ⟨_, rfl, Below.refl _ _, rfl, hB⟩ | exact ⟨Below.refl _ _, hB⟩ | exact Below.refl _ _
          · simp at hq; subst hq
            have g1 : act.tmps[1]?.getD undef = .pointer (some ⟨w.heap.size, 0, none⟩) := hI.kept 1 (by kernel_rfl)
            have g5 : act.tmps[5]?.getD undef = .pointer (some ⟨(w1.heap.size + 1), 0, none⟩) := hI.kept 5 (by kernel_rfl)
            clear hI hall hnot hcl
            refine .inl ⟨wanted_none rfl, ?_⟩
            unfold Oper.wp
            go_simp
            all_goals first | exact ⟨_, rfl, Below.refl _ _, rfl, hB⟩ | exact ⟨Below.refl _ _, hB⟩ | exact Below.refl _ _
          · simp at hq; subst hq
            have g30 : act.tmps[30]?.getD undef = .int .i64 n0 := hI.has 1 30 rfl (hall ⟨1, .data⟩ (by simp) rfl)
            have g31 : act.tmps[31]?.getD undef = .func (.func 104) #[] #[.pointer (some ⟨w.heap.size, 0, none⟩), .pointer (some ⟨(w1.heap.size + 1), 0, none⟩)] := hI.has 2 31 rfl (hall ⟨2, .data⟩ (by simp) rfl)
            clear hI hall hnot hcl
            refine .inl ⟨wanted_none rfl, ?_⟩
            unfold Oper.wp
            go_simp
            refine (i_listOf_wl _ _ (wlX ls) n0 w3 (by omega) (fun k hk W hW => ?_)).mono ?_
            · exact (HCL.out k hk W (below_of hB hB.size hW))
            · rintro e w4 ⟨A4, ys, rfl, hyl, hyq, b4, rfl, ho⟩
              have ey : ys = wlA ls := by rw [HWA.out]; exact list_eq_map hyl hyq
              exact ⟨_, rfl, b4, ⟨_, rfl, hB.size, by rw [← ey]; exact ho⟩, below_of hB hB.size b4⟩
          · simp at hq; subst hq
            have g5 : act.tmps[5]?.getD undef = .pointer (some ⟨(w1.heap.size + 1), 0, none⟩) := hI.kept 5 (by kernel_rfl)
            clear hI hall hnot hcl
            refine .inl ⟨wanted_none rfl, ?_⟩
            unfold Oper.wp
            go_simp
            all_goals first | exact ⟨_, rfl, Below.refl _ _, rfl, hB⟩ | exact ⟨Below.refl _ _, hB⟩ | exact Below.refl _ _
          · simp at hq; subst hq
            have G32 := hI.has 3 32 rfl (hall ⟨3, .data⟩ (by simp) rfl)
            obtain ⟨B32, g32, hl32, ho32⟩ := G32
            clear hI hall hnot hcl
            refine .inl ⟨wanted_none rfl, ?_⟩
            unfold Oper.wp
            go_simp
            first | exact ⟨_, rfl, Below.refl _ _, ⟨B32, rfl, hl32, ho32⟩, hB⟩ | exact ⟨_, rfl, Below.refl _ _, ⟨hl32, ho32⟩, hB⟩ | exact ⟨Below.refl _ _, ⟨B32, rfl, hl32, ho32⟩, hB⟩ | exact ⟨_, rfl, Below.refl _ _, hl32, ho32, hB⟩ | exact ⟨Below.refl _ _, hl32, ho32, hB⟩ | exact ⟨_, rfl, Below.refl _ _, ⟨B32, rfl, hl32, ho32⟩⟩
          · simp at hq; subst hq
            have g33 : act.tmps[33]?.getD undef = .slice (some ⟨w1.heap.size, 0, none⟩) n0 n0 := hI.has 4 33 rfl (hall ⟨4, .data⟩ (by simp) rfl)
            clear hI hall hnot hcl
            refine .inl ⟨wanted_none rfl, ?_⟩
            unfold Oper.wp
            go_simp
            all_goals first | exact ⟨_, rfl, Below.refl _ _, rfl, hB⟩ | exact ⟨Below.refl _ _, hB⟩ | exact Below.refl _ _
          · simp at hq; subst hq
            clear hI hall hnot hcl
            refine .inl ⟨wanted_none rfl, ?_⟩
            unfold Oper.wp
            go_simp
            all_goals first | exact ⟨_, rfl, Below.refl _ _, rfl, hB⟩ | exact ⟨Below.refl _ _, hB⟩ | exact Below.refl _ _
          · simp at hq
        case hend =>
          intro listed act w3 hI hall
          have hB := hI.cls
          have m5 : w3.cell? ⟨(w1.heap.size + 1), 0, none⟩ = some (.slice (some ⟨w1.heap.size, 0, none⟩) n0 n0) := by rw [hB.cell (p := ⟨w1.heap.size + 1, 0, none⟩) HGL.out]; exact HGB.out
          obtain ⟨B2, g2, hl2, ho2⟩ := hI.has 5 2 rfl (hall 5 (by decide))
          have g3 := hI.has 6 3 rfl (hall 6 (by decide))
          have g4 := hI.has 7 4 rfl (hall 7 (by decide))
          have hd := hI.defers
          have HB3 : Hid (Below w.heap.size w w3) := Lib.hid (below_of BW.out BW.out.size hB)
          have HO : Hid (OwnW w3 w.heap.size (some ⟨B2, 0, none⟩) (some ⟨w1.heap.size, 0, none⟩) B2 w1.heap.size ls) := Lib.hid ⟨.inr ⟨rfl, by have := BW.out.size; omega, ho2⟩, .inr ⟨rfl, by have := Z1.out; omega, HOW.out.below hB⟩, fun _ e => by have := HOW.out.1; omega⟩
          clear hI hall hB m5 ho2 hl2
          go_wp2
          refine bodyPost_ret (v := .tuple #[.slice (some ⟨B2, 0, none⟩) n0 n0, .slice (some ⟨w1.heap.size, 0, none⟩) n0 n0, .bool true]) (by simp [results, Try.results36, g2, g3, g4, go_sem]) (by first | rfl | exact hd) ?_
          exact ⟨_, _, _, _, ⟨_, by rw [wlA_len, wlW_len, HN.out, HV.out]⟩, ⟨_, HO.out⟩, HB3.out⟩
end Go.Proofs.Ytpmjikchlofebaa
