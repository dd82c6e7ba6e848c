/- Rotors: the specification's copies, and what it gives. No statement is proved here. -/
import Derived.Test.YtiiiigldpbomkaaValS
import Derived.Test.YtiiiigldpbomkaaPgr
import Derived.Deep.Cut
namespace Go.Proofs.Ytiiiigldpbomkaa
open Go Go.RowKit
theorem Gr.some1 {w : World} {B0 : Nat} {v : Value} {xs : List Nat} (h : Gr w B0 v xs) (hx : 1 ≤ xs.length) : ∃ b cap, v = .slice (some ⟨b, 0, none⟩) xs.length cap ∧ B0 ≤ b ∧ Own w b xs := by
  obtain ⟨A, cap, b, rfl, ho⟩ := h.own
  rcases ho with h0 | ⟨rfl, h1, h2⟩
  · rw [h0] at hx; simp at hx
  · exact ⟨b, cap, rfl, h1, h2⟩
theorem Fl.newsT {w : World} {b off : Nat} {xs : List Nat} (h : Fl w (some ⟨b, off, none⟩) xs) : ∀ j u, (xs.map (Value.float .f32))[j]? = some u → w.cell? ((⟨b, off, none⟩ : Addr).add j) = some u := by
  intro j u hj
  simp only [List.getElem?_map, Option.map_eq_some_iff] at hj
  obtain ⟨x, hx, rfl⟩ := hj
  have hlt : j < xs.length := (List.getElem?_eq_some_iff.1 hx).1
  have hc := h.same rfl hlt
  have e : xs.getD j 0 = x := by rw [List.getD_eq_getElem?_getD, hx]; rfl
  rw [e] at hc
  unfold Addr.add
  split
  · rename_i h0; subst h0; exact hc
  · exact hc
theorem oneFT (xs : List Nat) : ∀ u ∈ xs.map (Value.float .f32), u.oneCell' = true := by
  intro u hu
  simp only [List.mem_map] at hu
  obtain ⟨x, -, rfl⟩ := hu
  rfl
/-- a list of stations that was put together at once -/
theorem rows_own {w : World} {B0 n : Nat} {v : Value} {s : List Nat} (h : w.ownsRow B0 47 3 v n (s.map (Value.float .f32))) (hn : 1 ≤ n) : ∃ b cap, v = .slice (some ⟨b, 0, none⟩) n cap ∧ B0 ≤ b ∧ Own w b s := by
  obtain ⟨hl, h2⟩ := h
  rw [List.length_map] at hl
  rcases h2 with ⟨-, h0⟩ | ⟨g, cap, cur, rfl, hbg, hgg, hnc, hcm, hcs, htake⟩
  · omega
  · refine ⟨g, cap, rfl, hbg, (Array.getElem?_eq_some_iff.1 hgg).1, fun j hj => ⟨?_, ?_⟩⟩
    · rw [cell_of_row w g j cur 47 (0, 0) hgg]
      have h1 : cur.toList[j]? = some (Value.float .f32 (s.getD j 0)) := by
        have h2 : (cur.toList.take (n * 3))[j]? = (s.map (Value.float .f32))[j]? := by rw [htake]
        rw [List.getElem?_take, if_pos (by omega)] at h2
        rw [h2]
        simp [List.getD, hj]
      simpa using h1
    · simp [World.frozen?, hgg]
theorem st_infoT : (Try.prog.info? 47).map (fun i => (i.zero, i.size, i.bytes)) = some (some (.agg #[.float .f32 0, .float .f32 0, .float .f32 0]), 3, 12) := by kernel_rfl
theorem BlkL.sevenT {w : World} {B : Nat} {v0 v1 v2 v3 v4 v5 v6 : Value} (h : BlkL w B [v0, v1, v2, v3, v4, v5, v6]) : w.cell? ⟨B, 0, none⟩ = some v0 ∧ w.cell? ⟨B, 1, none⟩ = some v1 ∧ w.cell? ⟨B, 2, none⟩ = some v2 ∧ w.cell? ⟨B, 3, none⟩ = some v3 ∧ w.cell? ⟨B, 4, none⟩ = some v4 ∧ w.cell? ⟨B, 5, none⟩ = some v5 ∧ w.cell? ⟨B, 6, none⟩ = some v6 :=
  ⟨(h.2 0 _ rfl).1, (h.2 1 _ rfl).1, (h.2 2 _ rfl).1, (h.2 3 _ rfl).1, (h.2 4 _ rfl).1, (h.2 5 _ rfl).1, (h.2 6 _ rfl).1⟩
theorem BlkL.pre3 {w : World} {B : Nat} {v0 v1 v2 : Value} {vs : List Value} (h : BlkL w B (v0 :: v1 :: v2 :: vs)) : BlkL w B [v0, v1, v2] := by
  refine ⟨h.1, fun j v hj => h.2 j v ?_⟩
  rcases j with _ | _ | _ | j
  · exact hj
  · exact hj
  · exact hj
  · simp at hj
set_option maxHeartbeats 8000000 in
set_option maxRecDepth 100000 in
theorem s_l02Own (A L D : Option Addr) (ca cl cd B : Nat) (a l d : List Nat) (w : World) (h : Pf w A L D a l d) (hn : Few a l d) (h1 : 1 ≤ a.length) (h2 : 1 ≤ l.length) (h3 : 1 ≤ d.length) (hk : BlkL w B [.slice A a.length ca, .slice L l.length cl, .slice D d.length cd]) :
    Calls Try.prog 72 #[.pointer (some ⟨B, 0, none⟩)] w fun e w' => ∃ b1 b2 b3 c1 c2 c3, e = .returned (.agg #[.slice (some ⟨b1, 0, none⟩) a.length c1, .slice (some ⟨b2, 0, none⟩) l.length c2, .slice (some ⟨b3, 0, none⟩) d.length c3]) ∧
      Own w' b1 a ∧ Own w' b2 l ∧ Own w' b3 d ∧ w.heap.size ≤ b1 ∧ b1 < b2 ∧ b2 < b3 ∧ Below w.heap.size w w' := by
  obtain ⟨i0, hi, hz0, hz1, hz2⟩ := info_parts f32_info
  unfold Few at hn
  obtain ⟨ba, oa, rfl, -, -⟩ := h.1.at_ (k := 0) (by omega)
  obtain ⟨bl, ol, rfl, -, -⟩ := h.2.1.at_ (k := 0) (by omega)
  obtain ⟨bd, od, rfl, -, -⟩ := h.2.2.at_ (k := 0) (by omega)
  have HP := Lib.hid h; clear h
  obtain ⟨w0, hw0⟩ : ∃ z, z = w.alloc (.cells #[.slice none 0 0, .slice none 0 0, .slice none 0 0] 27) := ⟨_, rfl⟩
  have B0 : Hid (Below w.heap.size w w0) := Lib.hid (by rw [hw0]; exact (Below.refl _ _).alloc (Nat.le_refl _) _)
  have KR0 : Hid (BlkL w0 w.heap.size [.slice none 0 0, .slice none 0 0, .slice none 0 0]) := Lib.hid (by rw [hw0]; exact blkL_at w #[.slice none 0 0, .slice none 0 0, .slice none 0 0] _ rfl)
  have KPB : Hid (B < w.heap.size) := Lib.hid hk.1
  have KP0 : Hid (BlkL w0 B [.slice (some ⟨ba, oa, none⟩) a.length ca, .slice (some ⟨bl, ol, none⟩) l.length cl, .slice (some ⟨bd, od, none⟩) d.length cd]) := Lib.hid (hk.below B0.out)
  have Z0 : Hid (w.heap.size < w0.heap.size) := Lib.hid (by rw [hw0]; simp)
  clear hk
  have HX : Hid (Fl w0 (some ⟨ba, oa, none⟩) a) := Lib.hid (HP.out.1.below B0.out)
  go_enter Try.func72, Try.ntmps72
  go_upto_region 1 with fail
  rw [← hw0]
  clear hw0
  have HG : Hid (Gr (w0.alloc (.cells #[] 25)) w0.heap.size (.slice (some ⟨w0.heap.size, 0, none⟩) 0 0) []) := Lib.hid (Gr.made w0 w0.heap.size 0 #[] (Nat.le_refl _) (Nat.zero_le _) rfl)
  have m0 := fun o => ((KP0.out.alloc o).2 0 _ rfl).1
  go_wp2_with (first
    | (at_builtin; refine wpList_append_own _ rfl _ _ 22 rfl w0.heap.size 25 i0 (.float .f32 0) 1 4 Try.underlying22 hi hz0 hz1 hz2 rfl (by decide) _ _ _ rfl HG.out ⟨ba, oa, none⟩ a.length ca (a.map (Value.float .f32)) rfl ?e1 ?e2 ?e3 ?e4 ?e5 ?e6 ?_)
    | fail)
  case e1 => simp
  case e2 => exact (HX.out.below ((Below.refl _ _).alloc (Nat.le_refl _) _)).newsT
  case e3 => exact oneFT a
  case e4 => unfold maxLen; simp; omega
  case e5 => simp; omega
  case e6 => simp
  · intro v7 w1 hown' hgrow _
    have g2 : Gr w1 w0.heap.size v7 a := by unfold Gr; simpa using hown'
    have b2 : Below w0.heap.size w0 w1 := ((Below.refl _ _).alloc (Nat.le_refl _) _).grown hgrow (by simp) (fun k hk => by cases hk; exact Nat.le_refl _)
    obtain ⟨b1, c1, rfl, l1, o1⟩ := g2.some1 h1
    obtain ⟨w2, hw2⟩ : ∃ z, z = w1.alloc (.cells #[.slice (some ⟨b1, 0, none⟩) a.length c1, .slice none 0 0, .slice none 0 0] 27) := ⟨_, rfl⟩
    have bb : Below w1.heap.size w1 w2 := by rw [hw2]; exact (Below.refl _ _).alloc (Nat.le_refl _) _
    have b3 := below_of b2 b2.size bb
    have KO2 : Hid (BlkL w2 w1.heap.size [.slice (some ⟨b1, 0, none⟩) a.length c1, .slice none 0 0, .slice none 0 0]) := Lib.hid (by rw [hw2]; exact blkL_at w1 #[_, _, _] _ rfl)
    have O1 : Hid (Own w2 b1 a) := Lib.hid (o1.below bb)
    have HL1 : Hid (w0.heap.size ≤ b1 ∧ b1 < w1.heap.size ∧ w1.heap.size < w2.heap.size) := Lib.hid ⟨l1, o1.1, by rw [hw2]; simp⟩
    have B2 : Hid (Below w.heap.size w w2) := Lib.hid (below_of B0.out B0.out.size b3)
    have KR2 : Hid (BlkL w2 w.heap.size [.slice none 0 0, .slice none 0 0, .slice none 0 0]) := Lib.hid (KR0.out.below b3)
    have KP2 : Hid (BlkL w2 B [.slice (some ⟨ba, oa, none⟩) a.length ca, .slice (some ⟨bl, ol, none⟩) l.length cl, .slice (some ⟨bd, od, none⟩) d.length cd]) := Lib.hid (KP0.out.below b3)
    clear hown' hgrow g2 b2 bb b3 l1 o1 HG HX m0 KR0 KP0 B0
    obtain ⟨BO, hBO⟩ : ∃ z, z = w1.heap.size := ⟨_, rfl⟩
    rw [← hBO] at KO2 HL1
    go_upto_region 2 with fail
    rw [← hw2, ← hBO]
    clear hw2 hBO
    have HX : Hid (Fl w2 (some ⟨bl, ol, none⟩) l) := Lib.hid (HP.out.2.1.below B2.out)
    have HG : Hid (Gr (w2.alloc (.cells #[] 25)) w2.heap.size (.slice (some ⟨w2.heap.size, 0, none⟩) 0 0) []) := Lib.hid (Gr.made w2 w2.heap.size 0 #[] (Nat.le_refl _) (Nat.zero_le _) rfl)
    have m1 := fun o => ((KP2.out.alloc o).2 1 _ rfl).1
    go_wp2_with (first
      | (at_builtin; refine wpList_append_own _ rfl _ _ 22 rfl w2.heap.size 25 i0 (.float .f32 0) 1 4 Try.underlying22 hi hz0 hz1 hz2 rfl (by decide) _ _ _ rfl HG.out ⟨bl, ol, none⟩ l.length cl (l.map (Value.float .f32)) rfl ?e1 ?e2 ?e3 ?e4 ?e5 ?e6 ?_)
      | fail)
    case e1 => simp
    case e2 => exact (HX.out.below ((Below.refl _ _).alloc (Nat.le_refl _) _)).newsT
    case e3 => exact oneFT l
    case e4 => unfold maxLen; simp; omega
    case e5 => simp; omega
    case e6 => simp
    · intro v7 w3 hown' hgrow _
      have g2 : Gr w3 w2.heap.size v7 l := by unfold Gr; simpa using hown'
      have b2 : Below w2.heap.size w2 w3 := ((Below.refl _ _).alloc (Nat.le_refl _) _).grown hgrow (by simp) (fun k hk => by cases hk; exact Nat.le_refl _)
      obtain ⟨b2x, c2, rfl, l1, o1⟩ := g2.some1 h2
      have p1 := ((KO2.out.below b2).2 1 _ rfl).1
      have q1 := ((KO2.out.below b2).2 1 _ rfl).2
      obtain ⟨w4, hw2⟩ : ∃ z, z = w3.setCell ⟨BO, 1, none⟩ (.slice (some ⟨b2x, 0, none⟩) l.length c2) := ⟨_, rfl⟩
      have e1 := HL1.out
      have z0 := Z0.out
      have KO4 : Hid (BlkL w4 BO [.slice (some ⟨b1, 0, none⟩) a.length c1, .slice (some ⟨b2x, 0, none⟩) l.length c2, .slice none 0 0]) := Lib.hid (by rw [hw2]; exact (KO2.out.below b2).set (i := 1) (by simp) _)
      have O1' : Hid (Own w4 b1 a) := Lib.hid (by rw [hw2]; exact (O1.out.below b2).setCell (by show BO ≠ b1; omega) _)
      have O2 : Hid (Own w4 b2x l) := Lib.hid (by rw [hw2]; exact o1.setCell (by show BO ≠ b2x; omega) _)
      have HS4 : Hid (w4.heap.size = w3.heap.size) := Lib.hid (by rw [hw2]; simp [World.setCell])
      have HL2 : Hid (w.heap.size < b1 ∧ b1 < BO ∧ BO < w2.heap.size ∧ w2.heap.size ≤ b2x ∧ b2x < w3.heap.size) := Lib.hid (by have := o1.1; omega)
      have B4 : Hid (Below w.heap.size w w4) := Lib.hid (by rw [hw2]; exact (below_of B2.out B2.out.size b2).setCell (by show w.heap.size ≤ BO; omega) _)
      have KR4 : Hid (BlkL w4 w.heap.size [.slice none 0 0, .slice none 0 0, .slice none 0 0]) := Lib.hid (by rw [hw2]; exact (KR2.out.below b2).other (by show BO ≠ w.heap.size; omega) _)
      have KP4 : Hid (BlkL w4 B [.slice (some ⟨ba, oa, none⟩) a.length ca, .slice (some ⟨bl, ol, none⟩) l.length cl, .slice (some ⟨bd, od, none⟩) d.length cd]) := Lib.hid (by rw [hw2]; exact (KP2.out.below b2).other (by have := KPB.out; show BO ≠ B; omega) _)
      clear hown' hgrow g2 l1 o1 HG HX m1 KR2 KP2 B2 O1 KO2 HL1 e1 z0
      go_upto_region 3 with fail
      rw [← hw2]
      clear hw2 p1 q1 b2
      have HX : Hid (Fl w4 (some ⟨bd, od, none⟩) d) := Lib.hid (HP.out.2.2.below B4.out)
      have HG : Hid (Gr (w4.alloc (.cells #[] 25)) w4.heap.size (.slice (some ⟨w4.heap.size, 0, none⟩) 0 0) []) := Lib.hid (Gr.made w4 w4.heap.size 0 #[] (Nat.le_refl _) (Nat.zero_le _) rfl)
      have m2 := fun o => ((KP4.out.alloc o).2 2 _ rfl).1
      go_wp2_with (first
        | (at_builtin; refine wpList_append_own _ rfl _ _ 22 rfl w4.heap.size 25 i0 (.float .f32 0) 1 4 Try.underlying22 hi hz0 hz1 hz2 rfl (by decide) _ _ _ rfl HG.out ⟨bd, od, none⟩ d.length cd (d.map (Value.float .f32)) rfl ?e1 ?e2 ?e3 ?e4 ?e5 ?e6 ?_)
        | fail)
      case e1 => simp
      case e2 => exact (HX.out.below ((Below.refl _ _).alloc (Nat.le_refl _) _)).newsT
      case e3 => exact oneFT d
      case e4 => unfold maxLen; simp; omega
      case e5 => simp; omega
      case e6 => simp
      · intro v7 w5 hown' hgrow _
        have g2 : Gr w5 w4.heap.size v7 d := by unfold Gr; simpa using hown'
        have b2 : Below w4.heap.size w4 w5 := ((Below.refl _ _).alloc (Nat.le_refl _) _).grown hgrow (by simp) (fun k hk => by cases hk; exact Nat.le_refl _)
        obtain ⟨b3x, c3, rfl, l2, o2⟩ := g2.some1 h3
        have p2 := ((KO4.out.below b2).2 2 _ rfl).1
        have q2 := ((KO4.out.below b2).2 2 _ rfl).2
        obtain ⟨w6, hw2⟩ : ∃ z, z = w5.setCell ⟨BO, 2, none⟩ (.slice (some ⟨b3x, 0, none⟩) d.length c3) := ⟨_, rfl⟩
        have e1 := HL2.out
        have e4 := HS4.out
        have KO6 : Hid (BlkL w6 BO [.slice (some ⟨b1, 0, none⟩) a.length c1, .slice (some ⟨b2x, 0, none⟩) l.length c2, .slice (some ⟨b3x, 0, none⟩) d.length c3]) := Lib.hid (by rw [hw2]; exact (KO4.out.below b2).set (i := 2) (by simp) _)
        have P1 : Hid (Own w6 b1 a) := Lib.hid (by rw [hw2]; exact (O1'.out.below b2).setCell (by show BO ≠ b1; omega) _)
        have P2 : Hid (Own w6 b2x l) := Lib.hid (by rw [hw2]; exact (O2.out.below b2).setCell (by show BO ≠ b2x; omega) _)
        have P3 : Hid (Own w6 b3x d) := Lib.hid (by rw [hw2]; exact o2.setCell (by show BO ≠ b3x; omega) _)
        have HL3 : Hid (w.heap.size < b1 ∧ b1 < b2x ∧ b2x < b3x) := Lib.hid (by omega)
        have B6 : Hid (Below w.heap.size w w6) := Lib.hid (by rw [hw2]; exact (below_of B4.out B4.out.size b2).setCell (by show w.heap.size ≤ BO; omega) _)
        have KR6 : Hid (BlkL w6 w.heap.size [.slice none 0 0, .slice none 0 0, .slice none 0 0]) := Lib.hid (by rw [hw2]; exact (KR4.out.below b2).other (by show BO ≠ w.heap.size; omega) _)
        clear hown' hgrow g2 l2 o2 HG HX m2 KR4 KP4 B4 O1' O2 KO4 HL2 HS4 e1 e4
        go_upto_region 4 with fail
        rw [← hw2]
        clear hw2 p2 q2 b2
        obtain ⟨k0, k1, k2⟩ := KO6.out.three
        have p0 := (KR6.out.2 0 _ rfl).1
        have q0 := (KR6.out.2 0 _ rfl).2
        have p1 := (KR6.out.2 1 _ rfl).1
        have q1 := (KR6.out.2 1 _ rfl).2
        have p2 := (KR6.out.2 2 _ rfl).1
        have q2 := (KR6.out.2 2 _ rfl).2
        go_wp2
        refine bodyPost_ret (v := .agg #[.slice (some ⟨b1, 0, none⟩) a.length c1, .slice (some ⟨b2x, 0, none⟩) l.length c2, .slice (some ⟨b3x, 0, none⟩) d.length c3]) ?_ rfl ?_
        · simp [results, Try.results72, go_sem, p0, p1, p2]
        · obtain ⟨e1, e2, e3⟩ := HL3.out
          exact ⟨b1, b2x, b3x, c1, c2, c3, rfl, (((P1.out).setCell (p := ⟨w.heap.size, 0, none⟩) (by show w.heap.size ≠ b1; omega) _).setCell (p := ⟨w.heap.size, 1, none⟩) (by show w.heap.size ≠ b1; omega) _).setCell (p := ⟨w.heap.size, 2, none⟩) (by show w.heap.size ≠ b1; omega) _, (((P2.out).setCell (p := ⟨w.heap.size, 0, none⟩) (by show w.heap.size ≠ b2x; omega) _).setCell (p := ⟨w.heap.size, 1, none⟩) (by show w.heap.size ≠ b2x; omega) _).setCell (p := ⟨w.heap.size, 2, none⟩) (by show w.heap.size ≠ b2x; omega) _, (((P3.out).setCell (p := ⟨w.heap.size, 0, none⟩) (by show w.heap.size ≠ b3x; omega) _).setCell (p := ⟨w.heap.size, 1, none⟩) (by show w.heap.size ≠ b3x; omega) _).setCell (p := ⟨w.heap.size, 2, none⟩) (by show w.heap.size ≠ b3x; omega) _, by omega, e2, e3, (((B6.out).setCell (p := ⟨w.heap.size, 0, none⟩) (Nat.le_refl _) _).setCell (p := ⟨w.heap.size, 1, none⟩) (Nat.le_refl _) _).setCell (p := ⟨w.heap.size, 2, none⟩) (Nat.le_refl _) _⟩
set_option maxHeartbeats 8000000 in
set_option maxRecDepth 100000 in
theorem s_l03Own (A L D S : Option Addr) (ca cl cd n cs : Nat) (c : Int) (hub tip : Nat) (a l d s : List Nat) (B : Nat) (w : World) (h : Rt w A L D S a l d s) (hn : FewR a l d s n) (h1 : 1 ≤ a.length) (h2 : 1 ≤ l.length) (h3 : 1 ≤ d.length) (h4 : 1 ≤ n) (hk : Blk7 w B A L D S a l d ca cl cd n cs c hub tip) :
    Calls Try.prog 82 #[.pointer (some ⟨B, 0, none⟩)] w fun e w' => ∃ b1 b2 b3 b4 c1 c2 c3 c4, e = .returned (.agg #[.slice (some ⟨b1, 0, none⟩) a.length c1, .slice (some ⟨b2, 0, none⟩) l.length c2, .slice (some ⟨b3, 0, none⟩) d.length c3, .slice (some ⟨b4, 0, none⟩) n c4, .int .i64 c, .float .f32 hub, .float .f32 tip]) ∧
      Own w' b1 a ∧ Own w' b2 l ∧ Own w' b3 d ∧ Own w' b4 s ∧ w.heap.size ≤ b1 ∧ b1 < b2 ∧ b2 < b3 ∧ b3 < b4 ∧ Below w.heap.size w w' := by
  obtain ⟨i0, hi, hz0, hz1, hz2⟩ := info_parts st_infoT
  have HSL := Lib.hid hn.1
  have hnn : n ≤ 1048576 := by have := hn.2; omega
  obtain ⟨bs, os, rfl, -, -⟩ := h.2.at_ (k := 0) (by rw [HSL.out]; omega)
  have HP := Lib.hid h.1
  have HS := Lib.hid h.2
  have HFW := Lib.hid hn.few
  clear h hn
  have KPB : Hid (B < w.heap.size) := Lib.hid hk.1
  obtain ⟨w0, hw0⟩ : ∃ z, z = (w.alloc (.cells #[.slice none 0 0, .slice none 0 0, .slice none 0 0, .slice none 0 0, .int .i64 0, .float .f32 0, .float .f32 0] 30)).alloc (.cells #[.slice A a.length ca, .slice L l.length cl, .slice D d.length cd, .slice (some ⟨bs, os, none⟩) n cs, .int .i64 c, .float .f32 hub, .float .f32 tip] 30) := ⟨_, rfl⟩
  have B0 : Hid (Below w.heap.size w w0) := Lib.hid (by rw [hw0]; exact ((Below.refl _ _).alloc (Nat.le_refl _) _).alloc (by simp) _)
  have KR0 : Hid (BlkL w0 w.heap.size [.slice none 0 0, .slice none 0 0, .slice none 0 0, .slice none 0 0, .int .i64 0, .float .f32 0, .float .f32 0]) := Lib.hid (by rw [hw0]; exact (blkL_at w #[.slice none 0 0, .slice none 0 0, .slice none 0 0, .slice none 0 0, .int .i64 0, .float .f32 0, .float .f32 0] _ rfl).alloc _)
  have KO0 : Hid (BlkL w0 (w.heap.size + 1) [.slice A a.length ca, .slice L l.length cl, .slice D d.length cd, .slice (some ⟨bs, os, none⟩) n cs, .int .i64 c, .float .f32 hub, .float .f32 tip]) := Lib.hid (by rw [hw0]; exact blkL_at (w.alloc _) #[.slice A a.length ca, .slice L l.length cl, .slice D d.length cd, .slice (some ⟨bs, os, none⟩) n cs, .int .i64 c, .float .f32 hub, .float .f32 tip] _ (by simp))
  have KP0 : Hid (BlkL w0 B [.slice A a.length ca, .slice L l.length cl, .slice D d.length cd, .slice (some ⟨bs, os, none⟩) n cs, .int .i64 c, .float .f32 hub, .float .f32 tip]) := Lib.hid (BlkL.below hk B0.out)
  have Z0 : Hid (w0.heap.size = w.heap.size + 2) := Lib.hid (by rw [hw0]; simp)
  have m0 := fun o => (((BlkL.alloc hk o)).2 0 _ rfl).1
  have m1 := fun o => (((BlkL.alloc hk o)).2 1 _ rfl).1
  have m2 := fun o => (((BlkL.alloc hk o)).2 2 _ rfl).1
  have m3 := fun o => (((BlkL.alloc hk o)).2 3 _ rfl).1
  have m4 := fun o => (((BlkL.alloc hk o)).2 4 _ rfl).1
  have m5 := fun o => (((BlkL.alloc hk o)).2 5 _ rfl).1
  have m6 := fun o => (((BlkL.alloc hk o)).2 6 _ rfl).1
  clear hk
  go_enter Try.func82, Try.ntmps82
  go_upto_region 2 with fail
  rw [← hw0]
  clear hw0 m0 m1 m2 m3 m4 m5 m6
  go_wp2_with fail
  refine (s_l02Own A L D ca cl cd B a l d w0 ⟨HP.out.1.below B0.out, HP.out.2.1.below B0.out, HP.out.2.2.below B0.out⟩ HFW.out h1 h2 h3 KP0.out.pre3).mono ?_
  rintro e w1 ⟨b1, b2, b3, c1, c2, c3, rfl, o1, o2, o3, g1, g2, g3, b⟩
  have p0 := ((KO0.out.below b).2 0 _ rfl).1
  have q0 := ((KO0.out.below b).2 0 _ rfl).2
  have p1 := ((KO0.out.below b).2 1 _ rfl).1
  have q1 := ((KO0.out.below b).2 1 _ rfl).2
  have p2 := ((KO0.out.below b).2 2 _ rfl).1
  have q2 := ((KO0.out.below b).2 2 _ rfl).2
  have z0 := Z0.out
  obtain ⟨w2, hw2⟩ : ∃ z, z = ((w1.setCell ⟨w.heap.size + 1, 0, none⟩ (.slice (some ⟨b1, 0, none⟩) a.length c1)).setCell ⟨w.heap.size + 1, 1, none⟩ (.slice (some ⟨b2, 0, none⟩) l.length c2)).setCell ⟨w.heap.size + 1, 2, none⟩ (.slice (some ⟨b3, 0, none⟩) d.length c3) := ⟨_, rfl⟩
  have KO2 : Hid (BlkL w2 (w.heap.size + 1) [.slice (some ⟨b1, 0, none⟩) a.length c1, .slice (some ⟨b2, 0, none⟩) l.length c2, .slice (some ⟨b3, 0, none⟩) d.length c3, .slice (some ⟨bs, os, none⟩) n cs, .int .i64 c, .float .f32 hub, .float .f32 tip]) := Lib.hid (by rw [hw2]; exact (((KO0.out.below b).set (i := 0) (by simp) _).set (i := 1) (by simp) _).set (i := 2) (by simp) _)
  have O1 : Hid (Own w2 b1 a) := Lib.hid (by rw [hw2]; exact ((o1.setCell (by show w.heap.size + 1 ≠ b1; omega) _).setCell (by show w.heap.size + 1 ≠ b1; omega) _).setCell (by show w.heap.size + 1 ≠ b1; omega) _)
  have O2 : Hid (Own w2 b2 l) := Lib.hid (by rw [hw2]; exact ((o2.setCell (by show w.heap.size + 1 ≠ b2; omega) _).setCell (by show w.heap.size + 1 ≠ b2; omega) _).setCell (by show w.heap.size + 1 ≠ b2; omega) _)
  have O3 : Hid (Own w2 b3 d) := Lib.hid (by rw [hw2]; exact ((o3.setCell (by show w.heap.size + 1 ≠ b3; omega) _).setCell (by show w.heap.size + 1 ≠ b3; omega) _).setCell (by show w.heap.size + 1 ≠ b3; omega) _)
  have HS2 : Hid (w2.heap.size = w1.heap.size) := Lib.hid (by rw [hw2]; simp [World.setCell])
  have HL2 : Hid (w.heap.size + 2 ≤ b1 ∧ b1 < b2 ∧ b2 < b3 ∧ b3 < w1.heap.size) := Lib.hid (by have := o3.1; omega)
  have B2 : Hid (Below w.heap.size w w2) := Lib.hid (by rw [hw2]; exact (((below_of B0.out B0.out.size b).setCell (by show w.heap.size ≤ w.heap.size + 1; omega) _).setCell (by show w.heap.size ≤ w.heap.size + 1; omega) _).setCell (by show w.heap.size ≤ w.heap.size + 1; omega) _)
  have KR2 : Hid (BlkL w2 w.heap.size [.slice none 0 0, .slice none 0 0, .slice none 0 0, .slice none 0 0, .int .i64 0, .float .f32 0, .float .f32 0]) := Lib.hid (by rw [hw2]; exact (((KR0.out.below b).other (by show w.heap.size + 1 ≠ w.heap.size; omega) _).other (by show w.heap.size + 1 ≠ w.heap.size; omega) _).other (by show w.heap.size + 1 ≠ w.heap.size; omega) _)
  have KP2 : Hid (BlkL w2 B [.slice A a.length ca, .slice L l.length cl, .slice D d.length cd, .slice (some ⟨bs, os, none⟩) n cs, .int .i64 c, .float .f32 hub, .float .f32 tip]) := Lib.hid (by have := KPB.out; rw [hw2]; exact (((KP0.out.below b).other (by show w.heap.size + 1 ≠ B; omega) _).other (by show w.heap.size + 1 ≠ B; omega) _).other (by show w.heap.size + 1 ≠ B; omega) _)
  clear o1 o2 o3 g1 g2 g3 b KO0 KR0 KP0 B0 z0
  go_upto_region 3 with fail
  rw [← hw2]
  clear hw2 p0 p1 p2 q0 q1 q2
  have HX : Hid (Fl w2 (some ⟨bs, os, none⟩) s) := Lib.hid (HS.out.below B2.out)
  have HG : Hid (World.ownsRow (w2.alloc (.cells #[] 47)) w2.heap.size 47 3 (.slice (some ⟨w2.heap.size, 0, none⟩) 0 0) 0 []) := Lib.hid (World.ownsRow_made w2 #[] 0 (Nat.le_refl _) (Nat.zero_le _) rfl)
  have m3 := fun o => ((KP2.out.alloc o).2 3 _ rfl).1
  go_wp2_with (first
    | (at_builtin; refine wpList_append_own _ rfl _ _ 28 rfl w2.heap.size 47 i0 (.agg #[.float .f32 0, .float .f32 0, .float .f32 0]) 3 12 Try.underlying28 hi hz0 hz1 hz2 rfl (by decide) _ _ _ rfl HG.out ⟨bs, os, none⟩ n cs (s.map (Value.float .f32)) rfl ?e1 ?e2 ?e3 ?e4 ?e5 ?e6 ?_)
    | fail)
  case e1 => rw [List.length_map]; exact HSL.out
  case e2 => exact (HX.out.below ((Below.refl _ _).alloc (Nat.le_refl _) _)).newsT
  case e3 => exact oneFT s
  case e4 => unfold maxLen; omega
  case e5 => omega
  case e6 => simp
  · intro v7 w3 hown' hgrow _
    have hr : World.ownsRow w3 w2.heap.size 47 3 v7 n (s.map (Value.float .f32)) := by simpa using hown'
    have b : Below w2.heap.size w2 w3 := ((Below.refl _ _).alloc (Nat.le_refl _) _).grown hgrow (by simp) (fun k hk => by cases hk; exact Nat.le_refl _)
    obtain ⟨b4, c4, rfl, l4, o4⟩ := rows_own hr h4
    have p3 := ((KO2.out.below b).2 3 _ rfl).1
    have q3 := ((KO2.out.below b).2 3 _ rfl).2
    have e1 := HL2.out
    have e2 := HS2.out
    have z0 := Z0.out
    obtain ⟨w4, hw4⟩ : ∃ z, z = w3.setCell ⟨w.heap.size + 1, 3, none⟩ (.slice (some ⟨b4, 0, none⟩) n c4) := ⟨_, rfl⟩
    have KO4 : Hid (BlkL w4 (w.heap.size + 1) [.slice (some ⟨b1, 0, none⟩) a.length c1, .slice (some ⟨b2, 0, none⟩) l.length c2, .slice (some ⟨b3, 0, none⟩) d.length c3, .slice (some ⟨b4, 0, none⟩) n c4, .int .i64 c, .float .f32 hub, .float .f32 tip]) := Lib.hid (by rw [hw4]; exact (KO2.out.below b).set (i := 3) (by simp) _)
    have P1 : Hid (Own w4 b1 a) := Lib.hid (by rw [hw4]; exact (O1.out.below b).setCell (by show w.heap.size + 1 ≠ b1; omega) _)
    have P2 : Hid (Own w4 b2 l) := Lib.hid (by rw [hw4]; exact (O2.out.below b).setCell (by show w.heap.size + 1 ≠ b2; omega) _)
    have P3 : Hid (Own w4 b3 d) := Lib.hid (by rw [hw4]; exact (O3.out.below b).setCell (by show w.heap.size + 1 ≠ b3; omega) _)
    have P4 : Hid (Own w4 b4 s) := Lib.hid (by rw [hw4]; exact o4.setCell (by show w.heap.size + 1 ≠ b4; omega) _)
    have HL4 : Hid (w.heap.size + 2 ≤ b1 ∧ b1 < b2 ∧ b2 < b3 ∧ b3 < b4) := Lib.hid (by omega)
    have B4 : Hid (Below w.heap.size w w4) := Lib.hid (by rw [hw4]; exact (below_of B2.out B2.out.size b).setCell (by show w.heap.size ≤ w.heap.size + 1; omega) _)
    have KR4 : Hid (BlkL w4 w.heap.size [.slice none 0 0, .slice none 0 0, .slice none 0 0, .slice none 0 0, .int .i64 0, .float .f32 0, .float .f32 0]) := Lib.hid (by rw [hw4]; exact (KR2.out.below b).other (by show w.heap.size + 1 ≠ w.heap.size; omega) _)
    clear hown' hgrow hr l4 o4 O1 O2 O3 KO2 KR2 KP2 B2 HL2 HS2 e1 e2 z0 HX HG m3
    go_upto_region 4 with fail
    rw [← hw4]
    clear hw4 p3 q3 b
    obtain ⟨k0, k1, k2, k3, k4, k5, k6⟩ := KO4.out.sevenT
    have p0 := (KR4.out.2 0 _ rfl).1
    have q0 := (KR4.out.2 0 _ rfl).2
    have p1 := (KR4.out.2 1 _ rfl).1
    have q1 := (KR4.out.2 1 _ rfl).2
    have p2 := (KR4.out.2 2 _ rfl).1
    have q2 := (KR4.out.2 2 _ rfl).2
    have p3 := (KR4.out.2 3 _ rfl).1
    have q3 := (KR4.out.2 3 _ rfl).2
    have p4 := (KR4.out.2 4 _ rfl).1
    have q4 := (KR4.out.2 4 _ rfl).2
    have p5 := (KR4.out.2 5 _ rfl).1
    have q5 := (KR4.out.2 5 _ rfl).2
    have p6 := (KR4.out.2 6 _ rfl).1
    have q6 := (KR4.out.2 6 _ rfl).2
    go_wp2
    refine bodyPost_ret (v := .agg #[.slice (some ⟨b1, 0, none⟩) a.length c1, .slice (some ⟨b2, 0, none⟩) l.length c2, .slice (some ⟨b3, 0, none⟩) d.length c3, .slice (some ⟨b4, 0, none⟩) n c4, .int .i64 c, .float .f32 hub, .float .f32 tip]) ?_ rfl ?_
    · simp [results, Try.results82, go_sem, p0, p1, p2, p3, p4, p5, p6]
    · obtain ⟨e1, e2, e3, e4⟩ := HL4.out
      exact ⟨b1, b2, b3, b4, c1, c2, c3, c4, rfl, (((((((P1.out).setCell (p := ⟨w.heap.size, 0, none⟩) (by show w.heap.size ≠ _; omega) _).setCell (p := ⟨w.heap.size, 1, none⟩) (by show w.heap.size ≠ _; omega) _).setCell (p := ⟨w.heap.size, 2, none⟩) (by show w.heap.size ≠ _; omega) _).setCell (p := ⟨w.heap.size, 3, none⟩) (by show w.heap.size ≠ _; omega) _).setCell (p := ⟨w.heap.size, 4, none⟩) (by show w.heap.size ≠ _; omega) _).setCell (p := ⟨w.heap.size, 5, none⟩) (by show w.heap.size ≠ _; omega) _).setCell (p := ⟨w.heap.size, 6, none⟩) (by show w.heap.size ≠ _; omega) _, (((((((P2.out).setCell (p := ⟨w.heap.size, 0, none⟩) (by show w.heap.size ≠ _; omega) _).setCell (p := ⟨w.heap.size, 1, none⟩) (by show w.heap.size ≠ _; omega) _).setCell (p := ⟨w.heap.size, 2, none⟩) (by show w.heap.size ≠ _; omega) _).setCell (p := ⟨w.heap.size, 3, none⟩) (by show w.heap.size ≠ _; omega) _).setCell (p := ⟨w.heap.size, 4, none⟩) (by show w.heap.size ≠ _; omega) _).setCell (p := ⟨w.heap.size, 5, none⟩) (by show w.heap.size ≠ _; omega) _).setCell (p := ⟨w.heap.size, 6, none⟩) (by show w.heap.size ≠ _; omega) _, (((((((P3.out).setCell (p := ⟨w.heap.size, 0, none⟩) (by show w.heap.size ≠ _; omega) _).setCell (p := ⟨w.heap.size, 1, none⟩) (by show w.heap.size ≠ _; omega) _).setCell (p := ⟨w.heap.size, 2, none⟩) (by show w.heap.size ≠ _; omega) _).setCell (p := ⟨w.heap.size, 3, none⟩) (by show w.heap.size ≠ _; omega) _).setCell (p := ⟨w.heap.size, 4, none⟩) (by show w.heap.size ≠ _; omega) _).setCell (p := ⟨w.heap.size, 5, none⟩) (by show w.heap.size ≠ _; omega) _).setCell (p := ⟨w.heap.size, 6, none⟩) (by show w.heap.size ≠ _; omega) _, (((((((P4.out).setCell (p := ⟨w.heap.size, 0, none⟩) (by show w.heap.size ≠ _; omega) _).setCell (p := ⟨w.heap.size, 1, none⟩) (by show w.heap.size ≠ _; omega) _).setCell (p := ⟨w.heap.size, 2, none⟩) (by show w.heap.size ≠ _; omega) _).setCell (p := ⟨w.heap.size, 3, none⟩) (by show w.heap.size ≠ _; omega) _).setCell (p := ⟨w.heap.size, 4, none⟩) (by show w.heap.size ≠ _; omega) _).setCell (p := ⟨w.heap.size, 5, none⟩) (by show w.heap.size ≠ _; omega) _).setCell (p := ⟨w.heap.size, 6, none⟩) (by show w.heap.size ≠ _; omega) _, by omega, e2, e3, e4, (((((((B4.out).setCell (p := ⟨w.heap.size, 0, none⟩) (Nat.le_refl _) _).setCell (p := ⟨w.heap.size, 1, none⟩) (Nat.le_refl _) _).setCell (p := ⟨w.heap.size, 2, none⟩) (Nat.le_refl _) _).setCell (p := ⟨w.heap.size, 3, none⟩) (Nat.le_refl _) _).setCell (p := ⟨w.heap.size, 4, none⟩) (Nat.le_refl _) _).setCell (p := ⟨w.heap.size, 5, none⟩) (Nat.le_refl _) _).setCell (p := ⟨w.heap.size, 6, none⟩) (Nat.le_refl _) _⟩
set_option maxHeartbeats 8000000 in
theorem s_l03Give_yes (A L D S : Option Addr) (ca cl cd n cs : Nat) (c : Int) (hub tip : Nat) (a l d s : List Nat) (w : World) (h : Rt w A L D S a l d s) (hn : FewR a l d s n) (hv : validR a l d s n c hub tip = true) :
    Calls Try.prog 73 #[.agg #[.slice A a.length ca, .slice L l.length cl, .slice D d.length cd, .slice S n cs, .int .i64 c, .float .f32 hub, .float .f32 tip]] w fun e w' => e = .returned (.tuple #[.agg #[.slice A a.length ca, .slice L l.length cl, .slice D d.length cd, .slice S n cs, .int .i64 c, .float .f32 hub, .float .f32 tip], .bool true]) ∧ Below w.heap.size w w' := by
  have HP := Lib.hid h; clear h
  have HV := Lib.hid hv; clear hv
  obtain ⟨w0, hw0⟩ : ∃ z, z = (w.alloc (.cells #[.slice A a.length ca, .slice L l.length cl, .slice D d.length cd, .slice S n cs, .int .i64 c, .float .f32 hub, .float .f32 tip] 30)).alloc (.cells #[.slice none 0 0, .slice none 0 0, .slice none 0 0, .slice none 0 0, .int .i64 0, .float .f32 0, .float .f32 0] 30) := ⟨_, rfl⟩
  have B0 : Hid (Below w.heap.size w w0) := Lib.hid (by rw [hw0]; exact ((Below.refl _ _).alloc (Nat.le_refl _) _).alloc (by simp) _)
  have K0 : Hid (BlkL w0 w.heap.size [.slice A a.length ca, .slice L l.length cl, .slice D d.length cd, .slice S n cs, .int .i64 c, .float .f32 hub, .float .f32 tip]) := Lib.hid (by rw [hw0]; exact (blkL_at w #[.slice A a.length ca, .slice L l.length cl, .slice D d.length cd, .slice S n cs, .int .i64 c, .float .f32 hub, .float .f32 tip] _ rfl).alloc _)
  have KR : Hid (BlkL w0 (w.heap.size + 1) [.slice none 0 0, .slice none 0 0, .slice none 0 0, .slice none 0 0, .int .i64 0, .float .f32 0, .float .f32 0]) := Lib.hid (by rw [hw0]; exact blkL_at (w.alloc _) #[.slice none 0 0, .slice none 0 0, .slice none 0 0, .slice none 0 0, .int .i64 0, .float .f32 0, .float .f32 0] _ (by simp))
  go_enter Try.func73, Try.ntmps73
  go_wp2_with fail
  rw [← hw0]
  clear hw0
  refine (s_l03Is A L D S ca cl cd n cs c hub tip a l d s w.heap.size _ (HP.out.below B0.out) hn K0.out).mono ?_
  rintro e w1 ⟨rfl, b1⟩
  have L0 := Lib.hid (K0.out.below b1)
  have LR : Hid (BlkL w1 (w.heap.size + 1) [.slice none 0 0, .slice none 0 0, .slice none 0 0, .slice none 0 0, .int .i64 0, .float .f32 0, .float .f32 0]) := Lib.hid (KR.out.below b1)
  have B1 : Hid (Below w.heap.size w w1) := Lib.hid (below_of B0.out B0.out.size b1)
  clear b1 K0 KR B0
  rw [HV.out]
  obtain ⟨k0, k1, k2, k3, k4, k5, k6⟩ := BlkL.sevenT L0.out
  have p0 := (LR.out.2 0 _ rfl).1
  have q0 := (LR.out.2 0 _ rfl).2
  have p1 := (LR.out.2 1 _ rfl).1
  have q1 := (LR.out.2 1 _ rfl).2
  have p2 := (LR.out.2 2 _ rfl).1
  have q2 := (LR.out.2 2 _ rfl).2
  have p3 := (LR.out.2 3 _ rfl).1
  have q3 := (LR.out.2 3 _ rfl).2
  have p4 := (LR.out.2 4 _ rfl).1
  have q4 := (LR.out.2 4 _ rfl).2
  have p5 := (LR.out.2 5 _ rfl).1
  have q5 := (LR.out.2 5 _ rfl).2
  have p6 := (LR.out.2 6 _ rfl).1
  have q6 := (LR.out.2 6 _ rfl).2
  go_wp2
  refine bodyPost_ret (v := .tuple #[.agg #[.slice A a.length ca, .slice L l.length cl, .slice D d.length cd, .slice S n cs, .int .i64 c, .float .f32 hub, .float .f32 tip], .bool true]) ?_ rfl ⟨rfl, ?_⟩
  · simp [results, Try.results73, go_sem, p0, p1, p2, p3, p4, p5, p6]
  · exact (((((((B1.out).setCell (p := ⟨w.heap.size + 1, 0, none⟩) (by show w.heap.size ≤ w.heap.size + 1; omega) _).setCell (p := ⟨w.heap.size + 1, 1, none⟩) (by show w.heap.size ≤ w.heap.size + 1; omega) _).setCell (p := ⟨w.heap.size + 1, 2, none⟩) (by show w.heap.size ≤ w.heap.size + 1; omega) _).setCell (p := ⟨w.heap.size + 1, 3, none⟩) (by show w.heap.size ≤ w.heap.size + 1; omega) _).setCell (p := ⟨w.heap.size + 1, 4, none⟩) (by show w.heap.size ≤ w.heap.size + 1; omega) _).setCell (p := ⟨w.heap.size + 1, 5, none⟩) (by show w.heap.size ≤ w.heap.size + 1; omega) _).setCell (p := ⟨w.heap.size + 1, 6, none⟩) (by show w.heap.size ≤ w.heap.size + 1; omega) _
set_option maxHeartbeats 8000000 in
theorem s_l03Give_no (A L D S : Option Addr) (ca cl cd n cs : Nat) (c : Int) (hub tip : Nat) (a l d s : List Nat) (w : World) (h : Rt w A L D S a l d s) (hn : FewR a l d s n) (hv : validR a l d s n c hub tip = false) :
    Calls Try.prog 73 #[.agg #[.slice A a.length ca, .slice L l.length cl, .slice D d.length cd, .slice S n cs, .int .i64 c, .float .f32 hub, .float .f32 tip]] w fun e w' => e = .returned (.tuple #[.agg #[.slice none 0 0, .slice none 0 0, .slice none 0 0, .slice none 0 0, .int .i64 0, .float .f32 0, .float .f32 0], .bool false]) ∧ Below w.heap.size w w' := by
  have HP := Lib.hid h; clear h
  have HV := Lib.hid hv; clear hv
  obtain ⟨w0, hw0⟩ : ∃ z, z = (w.alloc (.cells #[.slice A a.length ca, .slice L l.length cl, .slice D d.length cd, .slice S n cs, .int .i64 c, .float .f32 hub, .float .f32 tip] 30)).alloc (.cells #[.slice none 0 0, .slice none 0 0, .slice none 0 0, .slice none 0 0, .int .i64 0, .float .f32 0, .float .f32 0] 30) := ⟨_, rfl⟩
  have B0 : Hid (Below w.heap.size w w0) := Lib.hid (by rw [hw0]; exact ((Below.refl _ _).alloc (Nat.le_refl _) _).alloc (by simp) _)
  have K0 : Hid (BlkL w0 w.heap.size [.slice A a.length ca, .slice L l.length cl, .slice D d.length cd, .slice S n cs, .int .i64 c, .float .f32 hub, .float .f32 tip]) := Lib.hid (by rw [hw0]; exact (blkL_at w #[.slice A a.length ca, .slice L l.length cl, .slice D d.length cd, .slice S n cs, .int .i64 c, .float .f32 hub, .float .f32 tip] _ rfl).alloc _)
  have KR : Hid (BlkL w0 (w.heap.size + 1) [.slice none 0 0, .slice none 0 0, .slice none 0 0, .slice none 0 0, .int .i64 0, .float .f32 0, .float .f32 0]) := Lib.hid (by rw [hw0]; exact blkL_at (w.alloc _) #[.slice none 0 0, .slice none 0 0, .slice none 0 0, .slice none 0 0, .int .i64 0, .float .f32 0, .float .f32 0] _ (by simp))
  go_enter Try.func73, Try.ntmps73
  go_wp2_with fail
  rw [← hw0]
  clear hw0
  refine (s_l03Is A L D S ca cl cd n cs c hub tip a l d s w.heap.size _ (HP.out.below B0.out) hn K0.out).mono ?_
  rintro e w1 ⟨rfl, b1⟩
  have L0 := Lib.hid (K0.out.below b1)
  have LR : Hid (BlkL w1 (w.heap.size + 1) [.slice none 0 0, .slice none 0 0, .slice none 0 0, .slice none 0 0, .int .i64 0, .float .f32 0, .float .f32 0]) := Lib.hid (KR.out.below b1)
  have B1 : Hid (Below w.heap.size w w1) := Lib.hid (below_of B0.out B0.out.size b1)
  clear b1 K0 KR B0
  rw [HV.out]
  obtain ⟨k0, k1, k2, k3, k4, k5, k6⟩ := BlkL.sevenT L0.out
  have p0 := (LR.out.2 0 _ rfl).1
  have q0 := (LR.out.2 0 _ rfl).2
  have p1 := (LR.out.2 1 _ rfl).1
  have q1 := (LR.out.2 1 _ rfl).2
  have p2 := (LR.out.2 2 _ rfl).1
  have q2 := (LR.out.2 2 _ rfl).2
  have p3 := (LR.out.2 3 _ rfl).1
  have q3 := (LR.out.2 3 _ rfl).2
  have p4 := (LR.out.2 4 _ rfl).1
  have q4 := (LR.out.2 4 _ rfl).2
  have p5 := (LR.out.2 5 _ rfl).1
  have q5 := (LR.out.2 5 _ rfl).2
  have p6 := (LR.out.2 6 _ rfl).1
  have q6 := (LR.out.2 6 _ rfl).2
  go_wp2
  refine bodyPost_ret (v := .tuple #[.agg #[.slice none 0 0, .slice none 0 0, .slice none 0 0, .slice none 0 0, .int .i64 0, .float .f32 0, .float .f32 0], .bool false]) ?_ rfl ⟨rfl, ?_⟩
  · simp [results, Try.results73, go_sem, p0, p1, p2, p3, p4, p5, p6]
  · exact (((((((B1.out).setCell (p := ⟨w.heap.size + 1, 0, none⟩) (by show w.heap.size ≤ w.heap.size + 1; omega) _).setCell (p := ⟨w.heap.size + 1, 1, none⟩) (by show w.heap.size ≤ w.heap.size + 1; omega) _).setCell (p := ⟨w.heap.size + 1, 2, none⟩) (by show w.heap.size ≤ w.heap.size + 1; omega) _).setCell (p := ⟨w.heap.size + 1, 3, none⟩) (by show w.heap.size ≤ w.heap.size + 1; omega) _).setCell (p := ⟨w.heap.size + 1, 4, none⟩) (by show w.heap.size ≤ w.heap.size + 1; omega) _).setCell (p := ⟨w.heap.size + 1, 5, none⟩) (by show w.heap.size ≤ w.heap.size + 1; omega) _).setCell (p := ⟨w.heap.size + 1, 6, none⟩) (by show w.heap.size ≤ w.heap.size + 1; omega) _
end Go.Proofs.Ytiiiigldpbomkaa
