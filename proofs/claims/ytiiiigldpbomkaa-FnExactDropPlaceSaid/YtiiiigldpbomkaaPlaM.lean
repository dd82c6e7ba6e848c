/- Farms with other places: the words; the specification's copy of a farm. No statement is proved here. -/
import Derived.Test.YtiiiigldpbomkaaRow
import Derived.Test.YtiiiigldpbomkaaMarkR
import Derived.RegionTactic
import Derived.BigRegion
import Derived.Deep.Cut
namespace Go.Proofs.Ytiiiigldpbomkaa
open Go Go.RowKit
/-- whether the farm with the places X, Y is given -/
def plcO (fx fy : List Nat) (fr fd fs : Nat) (ok : Bool) (X Y : List Nat) : Bool := frmV fx fy fr fd fs && (ok && frmV X Y fr fd fs)
theorem plcO_v {fx fy X Y : List Nat} {fr fd fs : Nat} {ok : Bool} (h : frmV fx fy fr fd fs = false) : plcO fx fy fr fd fs ok X Y = false := by unfold plcO; rw [h]; rfl
theorem plcO_k {fx fy X Y : List Nat} {fr fd fs : Nat} {ok : Bool} (h : ok = false) : plcO fx fy fr fd fs ok X Y = false := by unfold plcO; rw [h, Bool.false_and, Bool.and_false]
theorem plcO_y {fx fy X Y : List Nat} {fr fd fs : Nat} {ok : Bool} (h : frmV fx fy fr fd fs = true) (hk : ok = true) : plcO fx fy fr fd fs ok X Y = frmV X Y fr fd fs := by unfold plcO; rw [h, hk]; rfl
theorem plc_few (fx fy X Y : List Nat) (fr fd fs : Nat) (ok : Bool) : FewS (gL (plcO fx fy fr fd fs ok X Y) X) (gL (plcO fx fy fr fd fs ok X Y) Y) := by
  cases h : plcO fx fy fr fd fs ok X Y
  · simp [gL, FewS]
  · have h2 : frmV X Y fr fd fs = true := by
      unfold plcO at h
      rw [Bool.and_eq_true, Bool.and_eq_true] at h
      exact h.2.2
    obtain ⟨h3, h4, h5⟩ := frmV_sized h2
    simp only [gL, if_true, FewS]; omega
/-- without the number at i -/
def dropF (xs : List Nat) (i : Nat) : List Nat := xs.take i ++ xs.drop (i + 1)
def hasF (n : Nat) (i : Int) : Bool := decide (0 ≤ i ∧ i < (n : Int))
theorem Gr.ofOwn {w : World} {B0 : Nat} {v : Value} {xs : List Nat} (h : Gr w B0 v xs) (hx : xs ≠ []) : ∃ b cap, v = .slice (some ⟨b, 0, none⟩) xs.length cap ∧ B0 ≤ b ∧ Own w b xs := by
  obtain ⟨A, cap, b, rfl, ho⟩ := h.own
  rcases ho with h0 | ⟨rfl, h1, h2⟩
  · exact absurd h0 hx
  · exact ⟨b, cap, rfl, h1, h2⟩
set_option maxHeartbeats 8000000 in
set_option maxRecDepth 100000 in
theorem s_l06Own (X Y : Option Addr) (cx cy : Nat) (fx fy : List Nat) (fr fd fs : Nat) (B : Nat) (w : World) (h : Rs w X Y fx fy) (hn : FewS fx fy) (hx : 1 ≤ fx.length) (hy : 1 ≤ fy.length) (hk : BlkL w B [.slice X fx.length cx, .slice Y fy.length cy, .float .f32 fr, .float .f32 fd, .float .f32 fs]) :
    Calls Try.prog 128 #[.pointer (some ⟨B, 0, none⟩)] w fun e w' => ∃ v v' : Value, e = .returned (.agg #[v, v', .float .f32 fr, .float .f32 fd, .float .f32 fs]) ∧
      Gr w' w.heap.size v fx ∧ Gr w' w.heap.size v' fy ∧ (∀ k, v.ownBlock = some k → v'.ownBlock ≠ some k) ∧ Below w.heap.size w w' := by
  obtain ⟨i0, hi, hz0, hz1, hz2⟩ := info_parts f32_info
  have HP := Lib.hid h; clear h
  have HK := Lib.hid hk; clear hk
  unfold FewS at hn
  have KA : ∀ o o', Hid (BlkL ((w.alloc o).alloc o') B [.slice X fx.length cx, .slice Y fy.length cy, .float .f32 fr, .float .f32 fd, .float .f32 fs]) := fun o o' => Lib.hid ((HK.out.alloc o).alloc o')
  have KA1 : ∀ o, Hid (BlkL (w.alloc o) B [.slice X fx.length cx, .slice Y fy.length cy, .float .f32 fr, .float .f32 fd, .float .f32 fs]) := fun o => Lib.hid (HK.out.alloc o)
  have j2 := fun o => ((KA1 o).out.2 2 _ rfl).1
  have j3 := fun o => ((KA1 o).out.2 3 _ rfl).1
  have j4 := fun o => ((KA1 o).out.2 4 _ rfl).1
  have KZ : ∀ o, Hid (BlkL ((w.alloc o).alloc (.cells #[.slice none 0 0, .slice none 0 0, .float .f32 0, .float .f32 0, .float .f32 0] 79)) (w.heap.size + 1) [.slice none 0 0, .slice none 0 0, .float .f32 0, .float .f32 0, .float .f32 0]) := fun o => Lib.hid (blkL_at (w.alloc o) #[.slice none 0 0, .slice none 0 0, .float .f32 0, .float .f32 0, .float .f32 0] _ (by simp))
  have k2 := fun o o' => ((KA o o').out.2 2 _ rfl).1
  have k3 := fun o o' => ((KA o o').out.2 3 _ rfl).1
  have k4 := fun o o' => ((KA o o').out.2 4 _ rfl).1
  have p0 := fun o => ((KZ o).out.2 0 _ rfl).1
  have q0 := fun o => ((KZ o).out.2 0 _ rfl).2
  have p1 := fun o => ((KZ o).out.2 1 _ rfl).1
  have q1 := fun o => ((KZ o).out.2 1 _ rfl).2
  have p2 := fun o => ((KZ o).out.2 2 _ rfl).1
  have q2 := fun o => ((KZ o).out.2 2 _ rfl).2
  have p3 := fun o => ((KZ o).out.2 3 _ rfl).1
  have q3 := fun o => ((KZ o).out.2 3 _ rfl).2
  have p4 := fun o => ((KZ o).out.2 4 _ rfl).1
  have q4 := fun o => ((KZ o).out.2 4 _ rfl).2
  go_enter Try.func128, Try.ntmps128
  go_wp2
  go_region
  all_goals
    clear k2 k3 k4 j2 j3 j4 p0 p1 p2 p3 p4 q0 q1 q2 q3 q4 KA KA1 KZ
    obtain ⟨w1, hw1⟩ : ∃ x, x = ((w.alloc (.cells #[.slice none 0 0, .slice none 0 0, .float .f32 0, .float .f32 0, .float .f32 0] 79)).alloc (.cells #[.slice none 0 0, .slice none 0 0, .float .f32 fr, .float .f32 fd, .float .f32 fs] 79)).drew := ⟨_, rfl⟩
    rw [← hw1]
    have B1 : Hid (Below w.heap.size w w1) := Lib.hid (by rw [hw1]; exact below_draws (((Below.refl _ _).alloc (Nat.le_refl _) _).alloc (by simp) _) 1)
    have KR : Hid (BlkL w1 w.heap.size [.slice none 0 0, .slice none 0 0, .float .f32 0, .float .f32 0, .float .f32 0]) := Lib.hid (by rw [hw1]; exact ((blkL_at w #[.slice none 0 0, .slice none 0 0, .float .f32 0, .float .f32 0, .float .f32 0] _ rfl).alloc _).draws 1)
    have KO : Hid (BlkL w1 (w.heap.size + 1) [.slice none 0 0, .slice none 0 0, .float .f32 fr, .float .f32 fd, .float .f32 fs]) := Lib.hid (by rw [hw1]; exact (blkL_at (w.alloc _) #[.slice none 0 0, .slice none 0 0, .float .f32 fr, .float .f32 fd, .float .f32 fs] _ (by simp)).draws 1)
    have Z1 : Hid (w1.heap.size = w.heap.size + 2) := Lib.hid (by rw [hw1]; simp [World.drew])
    clear hw1
    have K1 : Hid (BlkL w1 B [.slice X fx.length cx, .slice Y fy.length cy, .float .f32 fr, .float .f32 fd, .float .f32 fs]) := Lib.hid (HK.out.below B1.out)
    have HX : Hid (Fl w1 X fx) := Lib.hid (HP.out.1.below B1.out)
    obtain ⟨bx, ox, rfl, -, -⟩ := HX.out.at_ (k := 0) (by omega)
    obtain ⟨by', oy, rfl, -, -⟩ := (HP.out.2.below B1.out).at_ (k := 0) (by omega)
    have m0 := fun o => ((K1.out.alloc o).2 0 _ rfl).1
    have HG : Hid (Gr (w1.alloc (.cells #[] 25)) w1.heap.size (.slice (some ⟨w1.heap.size, 0, none⟩) 0 0) []) := Lib.hid (Gr.made w1 w1.heap.size 0 #[] (Nat.le_refl _) (Nat.zero_le _) rfl)
    go_wp2_with (first
      | (at_builtin; refine wpList_append_own _ rfl _ _ 22 rfl w1.heap.size 25 i0 (.float .f32 0) 1 4 Try.underlying22 hi hz0 hz1 hz2 rfl (by decide) _ _ _ rfl HG.out ⟨bx, ox, none⟩ fx.length cx (fx.map (Value.float .f32)) rfl ?c1 ?c2 ?c3 ?c4 ?c5 ?c6 ?_)
      | fail)
    case c1 => simp
    case c2 => exact (HX.out.below ((Below.refl _ _).alloc (Nat.le_refl _) _)).news
    case c3 => exact oneF fx
    case c4 => unfold maxLen; simp; omega
    case c5 => simp; omega
    case c6 => simp
    · intro v' w7 hown' hgrow _
      obtain ⟨g2, b2⟩ := Gr.more (w0 := w1) (B0 := w1.heap.size) (m := fx.length) HG.out ((Below.refl _ _).alloc (Nat.le_refl _) _) (Nat.le_refl _) rfl (by simpa using hown') hgrow
      rw [List.nil_append] at g2
      obtain ⟨A', c', g, rfl, -⟩ := Gr.own g2
      have G2 := Lib.hid g2
      clear g2 hown' hgrow HG m0
      have p0 := ((KO.out.below b2).2 0 _ rfl).1
      have q0 := ((KO.out.below b2).2 0 _ rfl).2
      have HNE : Hid (∀ k, (Value.slice A' fx.length c').ownBlock = some k → w.heap.size + 2 ≤ k ∧ k < w7.heap.size) := Lib.hid (fun k hk => by have := G2.out.lt' hk; have := Z1.out; omega)
      obtain ⟨w8, hw8⟩ : ∃ x, x = w7.setCell ⟨w.heap.size + 1, 0, none⟩ (.slice A' fx.length c') := ⟨_, rfl⟩
      have HS8 : Hid (w8.heap.size = w7.heap.size) := Lib.hid (by rw [hw8]; simp [World.setCell])
      have KO8 : Hid (BlkL w8 (w.heap.size + 1) [.slice A' fx.length c', .slice none 0 0, .float .f32 fr, .float .f32 fd, .float .f32 fs]) := Lib.hid (by rw [hw8]; exact (KO.out.below b2).set (i := 0) (by simp) _)
      have G8 : Hid (Gr w8 w1.heap.size (.slice A' fx.length c') fx) := Lib.hid (by rw [hw8]; exact G2.out.setCell (fun e => by have := (HNE.out _ e).1; (try dsimp only at *); omega) _)
      have B8 : Hid (Below w.heap.size w w8) := Lib.hid (by rw [hw8]; exact (below_of B1.out B1.out.size b2).setCell (by show w.heap.size ≤ w.heap.size + 1; omega) _)
      have KR8 : Hid (BlkL w8 w.heap.size [.slice none 0 0, .slice none 0 0, .float .f32 0, .float .f32 0, .float .f32 0]) := Lib.hid (by rw [hw8]; exact (KR.out.below b2).other (by show w.heap.size + 1 ≠ w.heap.size; omega) _)
      have Z8 : Hid (w.heap.size + 2 ≤ w8.heap.size) := Lib.hid (by have := HS8.out; have := Z1.out; have := b2.size; omega)
      have K8 : Hid (BlkL w8 B [.slice (some ⟨bx, ox, none⟩) fx.length cx, .slice (some ⟨by', oy, none⟩) fy.length cy, .float .f32 fr, .float .f32 fd, .float .f32 fs]) := Lib.hid (HK.out.below B8.out)
      have HY8 : Hid (Fl w8 (some ⟨by', oy, none⟩) fy) := Lib.hid (HP.out.2.below B8.out)
      have m1 := fun o => ((K8.out.alloc o).2 1 _ rfl).1
      have HG2 : Hid (Gr (w8.alloc (.cells #[] 25)) w8.heap.size (.slice (some ⟨w8.heap.size, 0, none⟩) 0 0) []) := Lib.hid (Gr.made w8 w8.heap.size 0 #[] (Nat.le_refl _) (Nat.zero_le _) rfl)
      clear b2 KO KR B1 HX K1 G2
      go_upto_region 3 with fail
      rw [← hw8]
      clear hw8 p0 q0
      go_wp2_with (first
        | (at_builtin; refine wpList_append_own _ rfl _ _ 22 rfl w8.heap.size 25 i0 (.float .f32 0) 1 4 Try.underlying22 hi hz0 hz1 hz2 rfl (by decide) _ _ _ rfl HG2.out ⟨by', oy, none⟩ fy.length cy (fy.map (Value.float .f32)) rfl ?e1 ?e2 ?e3 ?e4 ?e5 ?e6 ?_)
        | fail)
      case e1 => simp
      case e2 => exact (HY8.out.below ((Below.refl _ _).alloc (Nat.le_refl _) _)).news
      case e3 => exact oneF fy
      case e4 => unfold maxLen; simp; omega
      case e5 => simp; omega
      case e6 => simp
      · intro v3 w9 hown' hgrow _
        obtain ⟨g3, b3⟩ := Gr.more (w0 := w8) (B0 := w8.heap.size) (m := fy.length) HG2.out ((Below.refl _ _).alloc (Nat.le_refl _) _) (Nat.le_refl _) rfl (by simpa using hown') hgrow
        rw [List.nil_append] at g3
        obtain ⟨A3, c3, gg, rfl, -⟩ := Gr.own g3
        have G3' := Lib.hid g3
        clear g3 hown' hgrow HG2 m1
        have p1 := ((KO8.out.below b3).2 1 _ rfl).1
        have q1 := ((KO8.out.below b3).2 1 _ rfl).2
        have HNE3 : Hid (∀ k, (Value.slice A3 fy.length c3).ownBlock = some k → w8.heap.size ≤ k ∧ k < w9.heap.size) := Lib.hid (fun k hk => G3'.out.lt' hk)
        obtain ⟨w10, hw10⟩ : ∃ x, x = w9.setCell ⟨w.heap.size + 1, 1, none⟩ (.slice A3 fy.length c3) := ⟨_, rfl⟩
        have KOx : Hid (BlkL w10 (w.heap.size + 1) [.slice A' fx.length c', .slice A3 fy.length c3, .float .f32 fr, .float .f32 fd, .float .f32 fs]) := Lib.hid (by rw [hw10]; exact (KO8.out.below b3).set (i := 1) (by simp) _)
        have Gx : Hid (Gr w10 w1.heap.size (.slice A' fx.length c') fx) := Lib.hid (by rw [hw10]; exact (G8.out.below b3).setCell (fun e => by have := (HNE.out _ e).1; (try dsimp only at *); omega) _)
        have Gy : Hid (Gr w10 w8.heap.size (.slice A3 fy.length c3) fy) := Lib.hid (by rw [hw10]; exact G3'.out.setCell (fun e => by have := (HNE3.out _ e).1; have := Z8.out; (try dsimp only at *); omega) _)
        have Bx : Hid (Below w.heap.size w w10) := Lib.hid (by rw [hw10]; exact (below_of B8.out B8.out.size b3).setCell (by show w.heap.size ≤ w.heap.size + 1; omega) _)
        have KRx : Hid (BlkL w10 w.heap.size [.slice none 0 0, .slice none 0 0, .float .f32 0, .float .f32 0, .float .f32 0]) := Lib.hid (by rw [hw10]; exact (KR8.out.below b3).other (by show w.heap.size + 1 ≠ w.heap.size; omega) _)
        clear b3 KO8 KR8 B8 HY8 K8 G3' G8
        go_upto_region 4 with fail
        rw [← hw10]
        clear hw10 p1 q1
        obtain ⟨k0, k1, k2, k3, k4⟩ := KOx.out.five
        have p0 := (KRx.out.2 0 _ rfl).1
        have q0 := (KRx.out.2 0 _ rfl).2
        have p1 := (KRx.out.2 1 _ rfl).1
        have q1 := (KRx.out.2 1 _ rfl).2
        have p2 := (KRx.out.2 2 _ rfl).1
        have q2 := (KRx.out.2 2 _ rfl).2
        have p3 := (KRx.out.2 3 _ rfl).1
        have q3 := (KRx.out.2 3 _ rfl).2
        have p4 := (KRx.out.2 4 _ rfl).1
        have q4 := (KRx.out.2 4 _ rfl).2
        go_wp2
        refine bodyPost_ret (v := .agg #[.slice A' fx.length c', .slice A3 fy.length c3, .float .f32 fr, .float .f32 fd, .float .f32 fs]) ?_ rfl ?_
        · simp [results, Try.results128, go_sem, p0, p1, p2, p3, p4]
        · have z1 := Z1.out
          have z8 := Z8.out
          have hne1 : Value.ownBlock (.slice A' fx.length c') ≠ some w.heap.size := fun e => by have := (HNE.out _ e).1; omega
          have hne2 : Value.ownBlock (.slice A3 fy.length c3) ≠ some w.heap.size := fun e => by have := (HNE3.out _ e).1; omega
          refine ⟨_, _, rfl, (((((Gx.out.base (by omega : w.heap.size ≤ w1.heap.size)).setCell (p := ⟨w.heap.size, 0, none⟩) (hne1) _).setCell (p := ⟨w.heap.size, 1, none⟩) (hne1) _).setCell (p := ⟨w.heap.size, 2, none⟩) (hne1) _).setCell (p := ⟨w.heap.size, 3, none⟩) (hne1) _).setCell (p := ⟨w.heap.size, 4, none⟩) (hne1) _, (((((Gy.out.base (by omega : w.heap.size ≤ w8.heap.size)).setCell (p := ⟨w.heap.size, 0, none⟩) (hne2) _).setCell (p := ⟨w.heap.size, 1, none⟩) (hne2) _).setCell (p := ⟨w.heap.size, 2, none⟩) (hne2) _).setCell (p := ⟨w.heap.size, 3, none⟩) (hne2) _).setCell (p := ⟨w.heap.size, 4, none⟩) (hne2) _, fun k hk hk2 => ?_, (((((Bx.out).setCell (p := ⟨w.heap.size, 0, none⟩) (Nat.le_refl _) _).setCell (p := ⟨w.heap.size, 1, none⟩) (Nat.le_refl _) _).setCell (p := ⟨w.heap.size, 2, none⟩) (Nat.le_refl _) _).setCell (p := ⟨w.heap.size, 3, none⟩) (Nat.le_refl _) _).setCell (p := ⟨w.heap.size, 4, none⟩) (Nat.le_refl _) _⟩
          have h1 := (HNE.out _ hk).2
          have h2 := (HNE3.out _ hk2).1
          have h3 := HS8.out
          omega
end Go.Proofs.Ytiiiigldpbomkaa
