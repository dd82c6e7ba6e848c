/- Profiles that the program makes: lists that are copied, and what is given. No statement is proved here. -/
import Derived.Test.YtiiiigldpbomkaaPgr
import Derived.Test.YtiiiigldpbomkaaInv7
namespace Go.Proofs.Ytiiiigldpbomkaa
open Go Go.RowKit
theorem Fl.newsP {w : World} {b off : Nat} {xs : List Nat} (h : Fl w (some ⟨b, off, none⟩) xs) : ∀ j u, (xs.map (Value.float .f32))[j]? = some u → w.cell? ((⟨b, off, none⟩ : Addr).add j) = some u := by
  intro j u hj
  simp only [List.getElem?_map, Option.map_eq_some_iff] at hj
  obtain ⟨x, hx, rfl⟩ := hj
  have hlt : j < xs.length := (List.getElem?_eq_some_iff.1 hx).1
  have hc := h.same rfl hlt
  have e : xs.getD j 0 = x := by rw [List.getD_eq_getElem?_getD, hx]; rfl
  rw [e] at hc
  unfold Addr.add
  split
  · rename_i h0; subst h0; exact hc
  · exact hc
theorem oneFP (xs : List Nat) : ∀ u ∈ xs.map (Value.float .f32), u.oneCell' = true := by
  intro u hu
  simp only [List.mem_map] at hu
  obtain ⟨x, -, rfl⟩ := hu
  rfl
/-- a list that grew by another one -/
theorem Gr.moreP {w0 wr w1 : World} {B0 m : Nat} {v v' : Value} {xs ys : List Nat} (h : Gr wr B0 v xs) (hb : Below w0.heap.size w0 wr) (hB : w0.heap.size ≤ B0) (hm : m = ys.length)
    (ho : w1.ownsRow B0 25 1 v' (xs.length + m) (xs.map (Value.float .f32) ++ ys.map (Value.float .f32))) (hg : wr.grownBy w1 v.ownBlock) : Gr w1 B0 v' (xs ++ ys) ∧ Below w0.heap.size w0 w1 := by
  subst hm
  refine ⟨by unfold Gr; simpa using ho, ?_⟩
  have hlt := World.ownsRow.lt h
  exact hb.grown hg hb.size (fun k hk => by have := (hlt k hk).1; omega)
theorem Fl.turnW {w w1 w3 : World} {RB : Nat} {A : Option Addr} {xs : List Nat} (h : Fl w A xs) (hb : Below w.heap.size w w1) (ht : Turn w1 w3 (fun b => b = RB)) (hr : w.heap.size ≤ RB) : Fl w3 A xs := by
  rcases h with h | ⟨b, o, e, h1, h2⟩
  · exact .inl h
  · refine .inr ⟨b, o, e, Nat.lt_of_lt_of_le (Nat.lt_of_lt_of_le h1 hb.size) ht.1, fun k hk => ?_⟩
    rw [ht.2.1 ⟨b, o + k, none⟩ (Nat.lt_of_lt_of_le h1 hb.size) (by show ¬ b = RB; omega), hb.cell (p := ⟨b, o + k, none⟩) h1]
    exact h2 k hk
set_option maxHeartbeats 4000000 in
set_option maxRecDepth 100000 in
theorem lib_CloneP0 (A : Option Addr) (cap : Nat) (xs : List Nat) (w : World) (h : Fl w A xs) (hn : xs.length ≤ 1048576) (h1 : 1 ≤ xs.length) :
    Calls Try.prog 154 #[.slice A xs.length cap] w fun e w' => ∃ (A' : Option Addr) (c b : Nat), e = .returned (.slice A' xs.length c) ∧ OwnO w' w.heap.size A' b xs ∧ Below w.heap.size w w' := by
  obtain ⟨i0, hi, hz0, hz1, hz2⟩ := info_parts f32_info
  obtain ⟨b, off, rfl, -, -⟩ := h.at_ (show 0 < xs.length by omega)
  have HF := Lib.hid h; clear h
  have HN := Lib.hid hn
  have HG : Hid (Gr (w.alloc (.cells #[] 25)) w.heap.size (.slice (some ⟨w.heap.size, 0, none⟩) 0 0) []) := Lib.hid (Gr.made w w.heap.size 0 #[] (Nat.le_refl _) (Nat.zero_le _) rfl)
  have heq : ∀ W : World, (binOp .eql 22 (.slice (some ⟨b, off, none⟩) xs.length cap) (.slice none 0 0)).run Try.prog W = .ok (.bool false) W := fun W => Go.Lib.run_eql_slice_nil W _ _ _ _ _ _ _ Try.underlying22
  go_enter Try.func154, Try.ntmps154
  go_wp2_with (first
    | (at_builtin; refine wpList_append_own _ rfl _ _ 22 rfl w.heap.size 25 i0 (.float .f32 0) 1 4 Try.underlying22 hi hz0 hz1 hz2 rfl (by decide) _ _ _ rfl HG.out ⟨b, off, none⟩ xs.length cap (xs.map (Value.float .f32)) rfl ?c1 ?c2 ?c3 ?c4 ?c5 ?c6 ?_)
    | fail)
  case c1 => simp
  case c2 => exact (HF.out.below ((Below.refl _ _).alloc (Nat.le_refl _) _)).newsP
  case c3 => exact oneFP xs
  case c4 => have := HN.out; unfold maxLen; simp; omega
  case c5 => have := HN.out; simp; omega
  case c6 => simp
  · intro v' w7 hown' hgrow _
    obtain ⟨g2, b2⟩ := Gr.moreP (w0 := w) (B0 := w.heap.size) (m := xs.length) HG.out ((Below.refl _ _).alloc (Nat.le_refl _) _) (Nat.le_refl _) rfl (by simpa using hown') hgrow
    obtain ⟨A', c, g, rfl, ho⟩ := Gr.own g2
    have HO := Lib.hid ho
    have HB := Lib.hid b2
    clear hown' hgrow g2 b2 ho
    rw [List.nil_append] at HO
    go_wp2
    go_ret
    exact ⟨A', c, g, by simp, HO.out, HB.out⟩
theorem lib_CloneP (A : Option Addr) (cap : Nat) (xs : List Nat) (w : World) (h : Fl w A xs) (hn : xs.length ≤ 1048576) (h1 : 1 ≤ xs.length) :
    Calls Try.prog 154 #[.slice A xs.length cap] w fun e w' => ∃ c b, e = .returned (.slice (some ⟨b, 0, none⟩) xs.length c) ∧ Own w' b xs ∧ w.heap.size ≤ b ∧ Below w.heap.size w w' := by
  refine (lib_CloneP0 A cap xs w h hn h1).mono ?_
  rintro e w' ⟨A', c, b, rfl, ho, hb⟩
  rcases ho with ho | ⟨rfl, h2, h3⟩
  · rw [ho] at h1; exact absurd h1 (by simp)
  · exact ⟨c, b, rfl, h3, h2, hb⟩
set_option maxHeartbeats 4000000 in
theorem i_GiveQ (R1 R2 R3 : Option Addr) (d1 d2 d3 b1 b2 b3 B0 : Nat) (xs ys zs X Y Z : List Nat) (O : Bool) (w : World) (h : OwnQ w B0 R1 R2 R3 b1 b2 b3 xs ys zs) (c1 : CL xs X) (c2 : CL ys Y) (c3 : CL zs Z) (hO : O = validP X Y Z) (hn : Few xs ys zs) :
    Calls Try.prog 196 #[.agg #[.slice R1 xs.length d1, .slice R2 ys.length d2, .slice R3 zs.length d3]] w fun e w' => ∃ (Ra Rb Rc : Option Addr) (da db dc ka kb kc : Nat), e = .returned (.tuple #[.agg #[.slice Ra (gLp O X).length da, .slice Rb (gLp O Y).length db, .slice Rc (gLp O Z).length dc], .bool O]) ∧
      OwnQ w' B0 Ra Rb Rc ka kb kc (gLp O X) (gLp O Y) (gLp O Z) ∧ Below w.heap.size w w' := by
  have hv := validP_CL c1 c2 c3
  cases v : validP X Y Z
  · refine (i_GiveP_no R1 R2 R3 d1 d2 d3 xs ys zs w h.pf hn (by rw [hv, v])).mono ?_
    rintro e w' ⟨rfl, hb⟩
    rw [hO, v]
    exact ⟨none, none, none, 0, 0, 0, 0, 1, 2, rfl, OwnQ.none _ _, hb⟩
  · obtain ⟨rfl, rfl, rfl⟩ := validP_eq c1 c2 c3 v
    refine (i_GiveP_yes R1 R2 R3 d1 d2 d3 xs ys zs w h.pf hn v).mono ?_
    rintro e w' ⟨rfl, hb⟩
    rw [hO, v]
    exact ⟨R1, R2, R3, d1, d2, d3, b1, b2, b3, rfl, h.below hb, hb⟩
/-- a profile that is told, with whether it is one -/
def PGiv (B0 : Nat) (O : Bool) (X Y Z : List Nat) (W : World) (v : Value) : Prop :=
  ∃ (Ra Rb Rc : Option Addr) (da db dc ka kb kc : Nat), v = .tuple #[.agg #[.slice Ra (gLp O X).length da, .slice Rb (gLp O Y).length db, .slice Rc (gLp O Z).length dc], .bool O] ∧ OwnQ W B0 Ra Rb Rc ka kb kc (gLp O X) (gLp O Y) (gLp O Z)
def PAgg (B0 : Nat) (O : Bool) (X Y Z : List Nat) (W : World) (v : Value) : Prop :=
  ∃ (Ra Rb Rc : Option Addr) (da db dc ka kb kc : Nat), v = .agg #[.slice Ra (gLp O X).length da, .slice Rb (gLp O Y).length db, .slice Rc (gLp O Z).length dc] ∧ OwnQ W B0 Ra Rb Rc ka kb kc (gLp O X) (gLp O Y) (gLp O Z)
theorem PGiv.mk' {B0 : Nat} {O : Bool} {X Y Z : List Nat} {W : World} {Ra Rb Rc : Option Addr} {da db dc ka kb kc : Nat} (h : OwnQ W B0 Ra Rb Rc ka kb kc (gLp O X) (gLp O Y) (gLp O Z)) :
    PGiv B0 O X Y Z W (.tuple #[.agg #[.slice Ra (gLp O X).length da, .slice Rb (gLp O Y).length db, .slice Rc (gLp O Z).length dc], .bool O]) := ⟨Ra, Rb, Rc, da, db, dc, ka, kb, kc, rfl, h⟩
theorem PAgg.mk' {B0 : Nat} {O : Bool} {X Y Z : List Nat} {W : World} {Ra Rb Rc : Option Addr} {da db dc ka kb kc : Nat} (h : OwnQ W B0 Ra Rb Rc ka kb kc (gLp O X) (gLp O Y) (gLp O Z)) :
    PAgg B0 O X Y Z W (.agg #[.slice Ra (gLp O X).length da, .slice Rb (gLp O Y).length db, .slice Rc (gLp O Z).length dc]) := ⟨Ra, Rb, Rc, da, db, dc, ka, kb, kc, rfl, h⟩
theorem PGiv.turn {B0 RB : Nat} {O : Bool} {X Y Z : List Nat} {W W' : World} {v : Value} (h : PGiv B0 O X Y Z W v) (ht : Turn W W' (fun b => b = RB)) (hb : RB < B0) : PGiv B0 O X Y Z W' v := by
  obtain ⟨Ra, Rb, Rc, da, db, dc, ka, kb, kc, rfl, h⟩ := h
  exact .mk' (OwnQ.turn' h ht (fun b h1 _ hb => by have hb : b = RB := hb; omega))
theorem PAgg.turn {B0 RB : Nat} {O : Bool} {X Y Z : List Nat} {W W' : World} {v : Value} (h : PAgg B0 O X Y Z W v) (ht : Turn W W' (fun b => b = RB)) (hb : RB < B0) : PAgg B0 O X Y Z W' v := by
  obtain ⟨Ra, Rb, Rc, da, db, dc, ka, kb, kc, rfl, h⟩ := h
  exact .mk' (OwnQ.turn' h ht (fun b h1 _ hb => by have hb : b = RB := hb; omega))
/-- what lies in the block RB in the end: a profile, if it is one -/
def PFin (RB B0 : Nat) (O : Bool) (X Y Z : List Nat) (W : World) : Prop :=
  ∃ (Ra Rb Rc : Option Addr) (da db dc ka kb kc : Nat), BlkL W RB [.slice Ra (gLp O X).length da, .slice Rb (gLp O Y).length db, .slice Rc (gLp O Z).length dc] ∧ OwnQ W B0 Ra Rb Rc ka kb kc (gLp O X) (gLp O Y) (gLp O Z)
theorem PFin.below (RB B0 : Nat) (O : Bool) (X Y Z : List Nat) : ∀ wa wb : World, Below wa.heap.size wa wb → PFin RB B0 O X Y Z wa → PFin RB B0 O X Y Z wb := by
  rintro wa wb hb ⟨Ra, Rb, Rc, da, db, dc, ka, kb, kc, h1, h2⟩
  exact ⟨Ra, Rb, Rc, da, db, dc, ka, kb, kc, h1.below hb, h2.below hb⟩
end Go.Proofs.Ytiiiigldpbomkaa
