/- Profiles that the program makes: lists that are copied, and what is given. No statement is proved here. -/
import Derived.Test.YtahbcpjipomcgaaPgr
import Derived.Test.YtahbcpjipomcgaaInv7
namespace Go.Proofs.Ytahbcpjipomcgaa
open Go Go.RowKit
theorem Fl.newsP {w : World} {b off : Nat} {xs : List Nat} (h : Fl w (some ⟨b, off, none⟩) xs) : ∀ j u, (xs.map (Value.float .f32))[j]? = some u → w.cell? ((⟨b, off, none⟩ : Addr).add j) = some u := by
  intro j u hj
  simp only [List.getElem?_map, Option.map_eq_some_iff] at hj
  obtain ⟨x, hx, rfl⟩ := hj
  have hlt : j < xs.length := (List.getElem?_eq_some_iff.1 hx).1
  have hc := h.same rfl hlt
  have e : xs.getD j 0 = x := by rw [List.getD_eq_getElem?_getD, hx]; rfl
  rw [e] at hc
  unfold Addr.add
  split
  · rename_i h0; subst h0; exact hc
  · exact hc
theorem oneFP (xs : List Nat) : ∀ u ∈ xs.map (Value.float .f32), u.oneCell' = true := by
  intro u hu
  simp only [List.mem_map] at hu
  obtain ⟨x, -, rfl⟩ := hu
  rfl
/-- a list that grew by another one -/
theorem Gr.moreP {w0 wr w1 : World} {B0 m : Nat} {v v' : Value} {xs ys : List Nat} (h : Gr wr B0 v xs) (hb : Below w0.heap.size w0 wr) (hB : w0.heap.size ≤ B0) (hm : m = ys.length)
    (ho : w1.ownsRow B0 25 1 v' (xs.length + m) (xs.map (Value.float .f32) ++ ys.map (Value.float .f32))) (hg : wr.grownBy w1 v.ownBlock) : Gr w1 B0 v' (xs ++ ys) ∧ Below w0.heap.size w0 w1 := by
  subst hm
  refine ⟨by unfold Gr; simpa using ho, ?_⟩
  have hlt := World.ownsRow.lt h
  exact hb.grown hg hb.size (fun k hk => by have := (hlt k hk).1; omega)
theorem Fl.turnW {w w1 w3 : World} {RB : Nat} {A : Option Addr} {xs : List Nat} (h : Fl w A xs) (hb : Below w.heap.size w w1) (ht : Turn w1 w3 (fun b => b = RB)) (hr : w.heap.size ≤ RB) : Fl w3 A xs := by
  rcases h with h | ⟨b, o, e, h1, h2⟩
  · exact .inl h
  · refine .inr ⟨b, o, e, Nat.lt_of_lt_of_le (Nat.lt_of_lt_of_le h1 hb.size) ht.1, fun k hk => ?_⟩
    rw [ht.2.1 ⟨b, o + k, none⟩ (Nat.lt_of_lt_of_le h1 hb.size) (by show ¬ b = RB; omega), hb.cell (p := ⟨b, o + k, none⟩) h1]
    exact h2 k hk
/-- a profile that is told, with whether it is one -/
def PGiv (B0 : Nat) (O : Bool) (X Y Z : List Nat) (W : World) (v : Value) : Prop :=
  ∃ (Ra Rb Rc : Option Addr) (da db dc ka kb kc : Nat), v = .tuple #[.agg #[.slice Ra (gLp O X).length da, .slice Rb (gLp O Y).length db, .slice Rc (gLp O Z).length dc], .bool O] ∧ OwnQ W B0 Ra Rb Rc ka kb kc (gLp O X) (gLp O Y) (gLp O Z)
def PAgg (B0 : Nat) (O : Bool) (X Y Z : List Nat) (W : World) (v : Value) : Prop :=
  ∃ (Ra Rb Rc : Option Addr) (da db dc ka kb kc : Nat), v = .agg #[.slice Ra (gLp O X).length da, .slice Rb (gLp O Y).length db, .slice Rc (gLp O Z).length dc] ∧ OwnQ W B0 Ra Rb Rc ka kb kc (gLp O X) (gLp O Y) (gLp O Z)
theorem PGiv.mk' {B0 : Nat} {O : Bool} {X Y Z : List Nat} {W : World} {Ra Rb Rc : Option Addr} {da db dc ka kb kc : Nat} (h : OwnQ W B0 Ra Rb Rc ka kb kc (gLp O X) (gLp O Y) (gLp O Z)) :
    PGiv B0 O X Y Z W (.tuple #[.agg #[.slice Ra (gLp O X).length da, .slice Rb (gLp O Y).length db, .slice Rc (gLp O Z).length dc], .bool O]) := ⟨Ra, Rb, Rc, da, db, dc, ka, kb, kc, rfl, h⟩
theorem PAgg.mk' {B0 : Nat} {O : Bool} {X Y Z : List Nat} {W : World} {Ra Rb Rc : Option Addr} {da db dc ka kb kc : Nat} (h : OwnQ W B0 Ra Rb Rc ka kb kc (gLp O X) (gLp O Y) (gLp O Z)) :
    PAgg B0 O X Y Z W (.agg #[.slice Ra (gLp O X).length da, .slice Rb (gLp O Y).length db, .slice Rc (gLp O Z).length dc]) := ⟨Ra, Rb, Rc, da, db, dc, ka, kb, kc, rfl, h⟩
theorem PGiv.turn {B0 RB : Nat} {O : Bool} {X Y Z : List Nat} {W W' : World} {v : Value} (h : PGiv B0 O X Y Z W v) (ht : Turn W W' (fun b => b = RB)) (hb : RB < B0) : PGiv B0 O X Y Z W' v := by
  obtain ⟨Ra, Rb, Rc, da, db, dc, ka, kb, kc, rfl, h⟩ := h
  exact .mk' (OwnQ.turn' h ht (fun b h1 _ hb => by have hb : b = RB := hb; omega))
theorem PAgg.turn {B0 RB : Nat} {O : Bool} {X Y Z : List Nat} {W W' : World} {v : Value} (h : PAgg B0 O X Y Z W v) (ht : Turn W W' (fun b => b = RB)) (hb : RB < B0) : PAgg B0 O X Y Z W' v := by
  obtain ⟨Ra, Rb, Rc, da, db, dc, ka, kb, kc, rfl, h⟩ := h
  exact .mk' (OwnQ.turn' h ht (fun b h1 _ hb => by have hb : b = RB := hb; omega))
/-- what lies in the block RB in the end: a profile, if it is one -/
def PFin (RB B0 : Nat) (O : Bool) (X Y Z : List Nat) (W : World) : Prop :=
  ∃ (Ra Rb Rc : Option Addr) (da db dc ka kb kc : Nat), BlkL W RB [.slice Ra (gLp O X).length da, .slice Rb (gLp O Y).length db, .slice Rc (gLp O Z).length dc] ∧ OwnQ W B0 Ra Rb Rc ka kb kc (gLp O X) (gLp O Y) (gLp O Z)
theorem PFin.below (RB B0 : Nat) (O : Bool) (X Y Z : List Nat) : ∀ wa wb : World, Below wa.heap.size wa wb → PFin RB B0 O X Y Z wa → PFin RB B0 O X Y Z wb := by
  rintro wa wb hb ⟨Ra, Rb, Rc, da, db, dc, ka, kb, kc, h1, h2⟩
  exact ⟨Ra, Rb, Rc, da, db, dc, ka, kb, kc, h1.below hb, h2.below hb⟩
end Go.Proofs.Ytahbcpjipomcgaa
