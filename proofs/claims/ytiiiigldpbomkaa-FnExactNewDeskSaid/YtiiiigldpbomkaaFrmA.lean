/- Lists that are copied and joined: slices.Clone, slices.Concat. No statement is proved here. -/
import Derived.Test.YtiiiigldpbomkaaFrmV
import Derived.Test.YtiiiigldpbomkaaMarkR
import Derived.Test.YtiiiigldpbomkaaApp
import Derived.Lib.SliceRun
import Derived.Lib.AppendZeros
namespace Go.Proofs.Ytiiiigldpbomkaa
open Go Go.RowKit
theorem Fl.news {w : World} {b off : Nat} {xs : List Nat} (h : Fl w (some ⟨b, off, none⟩) xs) : ∀ j u, (xs.map (Value.float .f32))[j]? = some u → w.cell? ((⟨b, off, none⟩ : Addr).add j) = some u := by
  intro j u hj
  simp only [List.getElem?_map, Option.map_eq_some_iff] at hj
  obtain ⟨x, hx, rfl⟩ := hj
  have hlt : j < xs.length := (List.getElem?_eq_some_iff.1 hx).1
  have hc := h.same rfl hlt
  have e : xs.getD j 0 = x := by rw [List.getD_eq_getElem?_getD, hx]; rfl
  rw [e] at hc
  unfold Addr.add
  split
  · rename_i h0; subst h0; exact hc
  · exact hc
theorem oneF (xs : List Nat) : ∀ u ∈ xs.map (Value.float .f32), u.oneCell' = true := by
  intro u hu
  simp only [List.mem_map] at hu
  obtain ⟨x, -, rfl⟩ := hu
  rfl
/-- a list that grew by another one -/
theorem Gr.more {w0 wr w1 : World} {B0 m : Nat} {v v' : Value} {xs ys : List Nat} (h : Gr wr B0 v xs) (hb : Below w0.heap.size w0 wr) (hB : w0.heap.size ≤ B0) (hm : m = ys.length)
    (ho : w1.ownsRow B0 25 1 v' (xs.length + m) (xs.map (Value.float .f32) ++ ys.map (Value.float .f32))) (hg : wr.grownBy w1 v.ownBlock) : Gr w1 B0 v' (xs ++ ys) ∧ Below w0.heap.size w0 w1 := by
  subst hm
  refine ⟨by unfold Gr; simpa using ho, ?_⟩
  have hlt := World.ownsRow.lt h
  exact hb.grown hg hb.size (fun k hk => by have := (hlt k hk).1; omega)
set_option maxHeartbeats 4000000 in
set_option maxRecDepth 100000 in
theorem lib_Clone (A : Option Addr) (cap : Nat) (xs : List Nat) (w : World) (h : Fl w A xs) (hn : xs.length ≤ 1048576) (h1 : 1 ≤ xs.length) :
    Calls Try.prog 154 #[.slice A xs.length cap] w fun e w' => ∃ (A' : Option Addr) (c b : Nat), e = .returned (.slice A' xs.length c) ∧ OwnO w' w.heap.size A' b xs ∧ Below w.heap.size w w' := by
  obtain ⟨i0, hi, hz0, hz1, hz2⟩ := info_parts f32_info
  obtain ⟨b, off, rfl, -, -⟩ := h.at_ (show 0 < xs.length by omega)
  have HF := Lib.hid h; clear h
  have HN := Lib.hid hn
  have HG : Hid (Gr (w.alloc (.cells #[] 25)) w.heap.size (.slice (some ⟨w.heap.size, 0, none⟩) 0 0) []) := Lib.hid (Gr.made w w.heap.size 0 #[] (Nat.le_refl _) (Nat.zero_le _) rfl)
  have heq : ∀ W : World, (binOp .eql 22 (.slice (some ⟨b, off, none⟩) xs.length cap) (.slice none 0 0)).run Try.prog W = .ok (.bool false) W := fun W => Go.Lib.run_eql_slice_nil W _ _ _ _ _ _ _ Try.underlying22
  go_enter Try.func154, Try.ntmps154
  go_wp2_with (first
    | (at_builtin; refine wpList_append_own _ rfl _ _ 22 rfl w.heap.size 25 i0 (.float .f32 0) 1 4 Try.underlying22 hi hz0 hz1 hz2 rfl (by decide) _ _ _ rfl HG.out ⟨b, off, none⟩ xs.length cap (xs.map (Value.float .f32)) rfl ?c1 ?c2 ?c3 ?c4 ?c5 ?c6 ?_)
    | fail)
  case c1 => simp
  case c2 => exact (HF.out.below ((Below.refl _ _).alloc (Nat.le_refl _) _)).news
  case c3 => exact oneF xs
  case c4 => have := HN.out; unfold maxLen; simp; omega
  case c5 => have := HN.out; simp; omega
  case c6 => simp
  · intro v' w7 hown' hgrow _
    obtain ⟨g2, b2⟩ := Gr.more (w0 := w) (B0 := w.heap.size) (m := xs.length) HG.out ((Below.refl _ _).alloc (Nat.le_refl _) _) (Nat.le_refl _) rfl (by simpa using hown') hgrow
    obtain ⟨A', c, g, rfl, ho⟩ := Gr.own g2
    have HO := Lib.hid ho
    have HB := Lib.hid b2
    clear hown' hgrow g2 b2 ho
    rw [List.nil_append] at HO
    go_wp2
    go_ret
    exact ⟨A', c, g, by simp, HO.out, HB.out⟩
set_option maxHeartbeats 4000000 in
set_option maxRecDepth 100000 in
theorem lib_GrowNil (n : Nat) (w : World) (hn : n ≤ 1048576) (h1 : 1 ≤ n) :
    Calls Try.prog 175 #[.slice none 0 0, .int .i64 n] w fun e w' => ∃ cap, e = .returned (.slice (some ⟨w.heap.size, 0, none⟩) 0 cap) ∧ Gr w' w.heap.size (.slice (some ⟨w.heap.size, 0, none⟩) 0 cap) [] ∧ Below w.heap.size w w' := by
  obtain ⟨i0, hi, hz0, hz1, hz2⟩ := info_parts f32_info
  have hr := Go.Lib.run_append_nil_zeros (P := Try.prog) w 22 3 22 25 i0 (.float .f32 0) .i64 .i64 Try.underlying22 Try.underlying3 hi hz0 n (by omega) (by omega) (by omega) (by rw [hz2]; omega)
  have hg : Hid (Gr (w.drew.alloc (.cells (Builtin.zeroCells (Value.float .f32 0).cells n ++ Builtin.zeroCells (Value.float .f32 0).cells (grownCap w n 0 25 - n)) 25)) w.heap.size (.slice (some ⟨w.heap.size, 0, none⟩) 0 (grownCap w n 0 25)) []) := Lib.hid (by
    refine Gr.made w.drew w.heap.size _ _ (Nat.le_refl _) (grownCap_le_maxLen w n 0 _ (by unfold maxLen; omega)) ?_
    have := grownCap_ge w n 0 25
    simp [Builtin.zeroCells, Value.cells]
    omega)
  have hge : n ≤ grownCap w n 0 25 := grownCap_ge w n 0 _
  have HB : Hid (∀ o, Below w.heap.size w (w.drew.alloc o)) := Lib.hid (fun o => (below_draws (Below.refl _ _) 1).alloc (Nat.le_refl _) _)
  clear hi hz0 hz1 hz2
  have HR := Lib.hid hr; clear hr
  go_enter Try.func175, Try.ntmps175
  go_wp2_with (first
    | (at_builtin; refine Go.Lib.wpList_append_run _ rfl _ _ _ _ rfl _ _ rfl rfl _ _ HR.out ?_)
    | fail)
  go_wp2
  go_ret
  exact ⟨_, rfl, hg.out, HB.out _⟩
set_option maxHeartbeats 8000000 in
set_option maxRecDepth 100000 in
theorem lib_Concat2 (b off b' off' ca cl Bs : Nat) (a l : List Nat) (w : World) (hA : Fl w (some ⟨b, off, none⟩) a) (hL : Fl w (some ⟨b', off', none⟩) l) (hk : BlkL w Bs [.slice (some ⟨b, off, none⟩) a.length ca, .slice (some ⟨b', off', none⟩) l.length cl]) (hn : a.length + l.length ≤ 1048576) (h1 : 1 ≤ a.length + l.length) :
    Calls Try.prog 132 #[.slice (some ⟨Bs, 0, none⟩) 2 2] w fun e w' => ∃ (A' : Option Addr) (c g : Nat), e = .returned (.slice A' (a.length + l.length) c) ∧ OwnO w' w.heap.size A' g (a ++ l) ∧ Below w.heap.size w w' := by
  obtain ⟨i0, hi, hz0, hz1, hz2⟩ := info_parts f32_info
  have HA := Lib.hid hA
  have HL := Lib.hid hL
  have HN := Lib.hid hn
  have HK := Lib.hid hk
  have H1 := Lib.hid h1
  clear hA hL hk
  obtain ⟨k0, k1⟩ := HK.out.two
  go_enter Try.func132, Try.ntmps132
  go_wp2
  go_loopw [3, 11] (fun s i wr => ∃ k : Nat, k ≤ 2 ∧ i = .int .i64 k ∧ s = .int .i64 ((if k = 0 then 0 else if k = 1 then a.length else a.length + l.length : Nat) : Int) ∧ wr = w) (fun _ i _ => 2 - (intOf i).toNat)
  case atStart => exact ⟨0, by omega, rfl, rfl, rfl⟩
  case round =>
    obtain ⟨k, hk, rfl, rfl, hw⟩ := hrel
    have hw2 := hw.symm
    clear hw
    subst hw2
    have hk3 : k = 0 ∨ k = 1 ∨ k = 2 := by omega
    rcases hk3 with rfl | rfl | rfl
    · go_wp2
      go_roundw
      case rel => exact ⟨1, by omega, by first | rfl | trivial | go_num, by first | rfl | trivial | (simp; done) | go_num, by first | rfl | trivial⟩
      case measure => simp [intOf]
    · go_wp2
      go_roundw
      case rel => exact ⟨2, by omega, by first | rfl | trivial | go_num, by first | rfl | trivial | (simp; done) | go_num, by first | rfl | trivial⟩
      case measure => simp [intOf]
    · clear k0 k1 hk
      simp only [show (2 : Nat) ≠ 0 by decide, show (2 : Nat) ≠ 1 by decide, if_false]
      go_wp2_with fail
      refine (lib_GrowNil (a.length + l.length) _ hn h1).mono ?_
      rintro e w1 ⟨cap, rfl, hg1, hb1⟩
      have K1 : Hid (BlkL w1 Bs [.slice (some ⟨b, off, none⟩) a.length ca, .slice (some ⟨b', off', none⟩) l.length cl]) := Lib.hid (HK.out.below hb1)
      have HG1 := Lib.hid hg1
      have HB1 := Lib.hid hb1
      clear hg1 hb1 hn h1
      go_wp2
      go_loopw [6, 27] (fun s i wr => ∃ (k : Nat) (v : Value), k ≤ 2 ∧ i = .int .i64 k ∧ s = v ∧ Gr wr w.heap.size v (if k = 0 then [] else if k = 1 then a else a ++ l) ∧ Below w.heap.size w wr) (fun _ i _ => 2 - (intOf i).toNat)
      case atStart => exact ⟨0, _, by omega, rfl, rfl, HG1.out, HB1.out⟩
      case round =>
        obtain ⟨k, v, hk, rfl, rfl, hg, hb⟩ := hrel
        have K0 : Hid (BlkL _ Bs [.slice (some ⟨b, off, none⟩) a.length ca, .slice (some ⟨b', off', none⟩) l.length cl]) := Lib.hid (HK.out.below hb)
        have hk3 : k = 0 ∨ k = 1 ∨ k = 2 := by omega
        obtain ⟨k0, k1⟩ := K0.out.two
        rcases hk3 with rfl | rfl | rfl
        · clear K0
          rw [if_pos rfl] at hg
          have HG := Lib.hid hg; clear hg
          have HBB := Lib.hid hb; clear hb
          go_wp2_with (first
            | (at_builtin; refine wpList_append_own _ rfl _ _ 22 rfl w.heap.size 25 i0 (.float .f32 0) 1 4 Try.underlying22 hi hz0 hz1 hz2 rfl (by decide) _ _ _ rfl HG.out ⟨b, off, none⟩ a.length ca (a.map (Value.float .f32)) rfl ?c1 ?c2 ?c3 ?c4 ?c5 ?c6 ?_)
            | fail)
          all_goals try (case c1 => simp)
          case c2 => exact (HA.out.below HBB.out).news
          case c3 => exact oneF a
          case c4 => have := HN.out; unfold maxLen; simp; omega
          case c5 => have := HN.out; simp; omega
          case c6 => exact HBB.out.size
          · intro v' w7 hown' hgrow _
            obtain ⟨g2, b2⟩ := Gr.more (w0 := w) (B0 := w.heap.size) (m := a.length) HG.out HBB.out (Nat.le_refl _) rfl (by simpa using hown') hgrow
            have HG2 := Lib.hid g2
            have HB2 := Lib.hid b2
            clear hown' hgrow g2 b2
            go_wp2
            go_roundw
            case rel => exact ⟨1, v', by omega, rfl, rfl, HG2.out, HB2.out⟩
            case measure => simp [intOf]
        · clear K0
          rw [if_neg (by decide), if_pos rfl] at hg
          have HG := Lib.hid hg; clear hg
          have HBB := Lib.hid hb; clear hb
          go_wp2_with (first
            | (at_builtin; refine wpList_append_own _ rfl _ _ 22 rfl w.heap.size 25 i0 (.float .f32 0) 1 4 Try.underlying22 hi hz0 hz1 hz2 rfl (by decide) _ _ _ rfl HG.out ⟨b', off', none⟩ l.length cl (l.map (Value.float .f32)) rfl ?c1 ?c2 ?c3 ?c4 ?c5 ?c6 ?_)
            | fail)
          all_goals try (case c1 => simp)
          case c2 => exact (HL.out.below HBB.out).news
          case c3 => exact oneF l
          case c4 => have := HN.out; unfold maxLen; simp; omega
          case c5 => have := HN.out; simp; omega
          case c6 => exact HBB.out.size
          · intro v' w7 hown' hgrow _
            obtain ⟨g2, b2⟩ := Gr.more (w0 := w) (B0 := w.heap.size) (m := l.length) HG.out HBB.out (Nat.le_refl _) rfl (by simpa using hown') hgrow
            have HG2 := Lib.hid g2
            have HB2 := Lib.hid b2
            clear hown' hgrow g2 b2
            go_wp2
            go_roundw
            case rel => exact ⟨2, v', by omega, rfl, rfl, HG2.out, HB2.out⟩
            case measure => simp [intOf]
        · rw [if_neg (by decide), if_neg (by decide)] at hg
          obtain ⟨A', c, g, rfl, ho⟩ := Gr.own hg
          have HO := Lib.hid ho
          have HBB := Lib.hid hb
          clear hg ho hb K0 k0 k1
          rw [List.length_append]
          go_wp2
          go_ret
          exact ⟨A', c, g, rfl, HO.out, HBB.out⟩
end Go.Proofs.Ytiiiigldpbomkaa
