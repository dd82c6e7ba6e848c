/- Drawn regions that make a rotor and store it into a block of their own. No statement is proved here. -/
import Derived.Test.YtiiiigldpbomkaaKeep
import Derived.Test.YtiiiigldpbomkaaStM
namespace Go.Proofs.Ytiiiigldpbomkaa
open Go Go.RowKit
theorem OwnT.ko {wa wb : World} {B0 b1 b2 b3 b4 : Nat} {A L D S : Option Addr} {a l d s : List Nat} (h : OwnT wa B0 A L D S b1 b2 b3 b4 a l d s) (k : KO wa wb) : OwnT wb B0 A L D S b1 b2 b3 b4 a l d s := ⟨h.1.ko k, h.2.1.ko k, h.2.2⟩
theorem Own.apart {w : World} {g B n c : Nat} {p : Option Addr} {t : List Value} {xs : List Nat} (h : Own w g xs) (hx : xs ≠ []) (hk : BlkL w B (.slice p n c :: t)) : g ≠ B := by
  intro e
  subst e
  have h1 := (h.2 0 (by cases xs with | nil => exact absurd rfl hx | cons x t => simp)).1
  rw [(hk.2 0 _ rfl).1] at h1
  cases h1
theorem OwnO.apart {w : World} {B0 g B n c : Nat} {A p : Option Addr} {t : List Value} {xs : List Nat} (h : OwnO w B0 A g xs) (hk : BlkL w B (.slice p n c :: t)) : ∀ b, SB xs g b → b ≠ B := by
  rintro b ⟨hx, rfl⟩
  rcases h with h | ⟨-, -, h⟩
  · exact absurd h hx
  · exact h.apart hx hk
theorem OwnT.apart {w : World} {B0 b1 b2 b3 b4 B n c : Nat} {A L D S p : Option Addr} {t : List Value} {a l d s : List Nat} (h : OwnT w B0 A L D S b1 b2 b3 b4 a l d s) (hk : BlkL w B (.slice p n c :: t)) : ∀ b, SRt a l d s b1 b2 b3 b4 b → b ≠ B := by
  rintro b ((hb | hb | hb) | hb)
  · exact h.1.1.apart hk b hb
  · exact h.1.2.1.apart hk b hb
  · exact h.1.2.2.1.apart hk b hb
  · exact h.2.1.apart hk b hb
theorem KO.store7 {w : World} {B : Nat} {p0 : Option Addr} {n0 c0 : Nat} {t : List Value} (h : BlkL w B (.slice p0 n0 c0 :: t)) (u0 u1 u2 u3 u4 u5 u6 : Value) :
    KO w (((((((w.setCell ⟨B, 0, none⟩ u0).setCell ⟨B, 1, none⟩ u1).setCell ⟨B, 2, none⟩ u2).setCell ⟨B, 3, none⟩ u3).setCell ⟨B, 4, none⟩ u4).setCell ⟨B, 5, none⟩ u5).setCell ⟨B, 6, none⟩ u6) := by
  refine ⟨by simp [World.setCell], fun g xs hx ho => ?_⟩
  have hne : B ≠ g := by
    intro e
    subst e
    have h1 := (ho.2 0 (by cases xs with | nil => exact absurd rfl hx | cons x t => simp)).1
    rw [(h.2 0 _ rfl).1] at h1
    cases h1
  exact (((((((ho.setCell (p := ⟨B, 0, none⟩) hne u0).setCell (p := ⟨B, 1, none⟩) hne u1).setCell (p := ⟨B, 2, none⟩) hne u2).setCell (p := ⟨B, 3, none⟩) hne u3).setCell (p := ⟨B, 4, none⟩) hne u4).setCell (p := ⟨B, 5, none⟩) hne u5).setCell (p := ⟨B, 6, none⟩) hne u6)
/-- a rotor that is told, with whether it is one -/
def RGiv (B0 : Nat) (O : Bool) (a l d s : List Nat) (n : Nat) (c : Int) (hub tip : Nat) (W : World) (v : Value) : Prop := ∃ (Ra Rb Rc Rd : Option Addr) (da db dc dd ka kb kc kd : Nat), v = .tuple #[.agg #[.slice Ra (gLp O a).length da, .slice Rb (gLp O l).length db, .slice Rc (gLp O d).length dc, .slice Rd (gN O n) dd, .int .i64 (gC O c), .float .f32 (gN O hub), .float .f32 (gN O tip)], .bool O] ∧ OwnT W B0 Ra Rb Rc Rd ka kb kc kd (gLp O a) (gLp O l) (gLp O d) (gLp O s)
def RAgg (B0 : Nat) (O : Bool) (a l d s : List Nat) (n : Nat) (c : Int) (hub tip : Nat) (W : World) (v : Value) : Prop := ∃ (Ra Rb Rc Rd : Option Addr) (da db dc dd ka kb kc kd : Nat), v = .agg #[.slice Ra (gLp O a).length da, .slice Rb (gLp O l).length db, .slice Rc (gLp O d).length dc, .slice Rd (gN O n) dd, .int .i64 (gC O c), .float .f32 (gN O hub), .float .f32 (gN O tip)] ∧ OwnT W B0 Ra Rb Rc Rd ka kb kc kd (gLp O a) (gLp O l) (gLp O d) (gLp O s)
/-- the rotor lies in the block that a pointer tells -/
def RFin (B0 : Nat) (O : Bool) (a l d s : List Nat) (n : Nat) (c : Int) (hub tip : Nat) (v : Value) (W : World) : Prop := ∃ (B : Nat) (Ra Rb Rc Rd : Option Addr) (da db dc dd ka kb kc kd : Nat), v = .pointer (some ⟨B, 0, none⟩) ∧ B0 ≤ B ∧ BlkL W B [.slice Ra (gLp O a).length da, .slice Rb (gLp O l).length db, .slice Rc (gLp O d).length dc, .slice Rd (gN O n) dd, .int .i64 (gC O c), .float .f32 (gN O hub), .float .f32 (gN O tip)] ∧ OwnT W B0 Ra Rb Rc Rd ka kb kc kd (gLp O a) (gLp O l) (gLp O d) (gLp O s)
section
variable {B0 : Nat} {O : Bool} {a l d s : List Nat} {n : Nat} {c : Int} {hub tip : Nat} {W W' : World} {v : Value}
theorem RGiv.mk' {Ra Rb Rc Rd : Option Addr} {da db dc dd ka kb kc kd : Nat} (h : OwnT W B0 Ra Rb Rc Rd ka kb kc kd (gLp O a) (gLp O l) (gLp O d) (gLp O s)) : RGiv B0 O a l d s n c hub tip W (.tuple #[.agg #[.slice Ra (gLp O a).length da, .slice Rb (gLp O l).length db, .slice Rc (gLp O d).length dc, .slice Rd (gN O n) dd, .int .i64 (gC O c), .float .f32 (gN O hub), .float .f32 (gN O tip)], .bool O]) := ⟨Ra, Rb, Rc, Rd, da, db, dc, dd, ka, kb, kc, kd, rfl, h⟩
theorem RAgg.mk' {Ra Rb Rc Rd : Option Addr} {da db dc dd ka kb kc kd : Nat} (h : OwnT W B0 Ra Rb Rc Rd ka kb kc kd (gLp O a) (gLp O l) (gLp O d) (gLp O s)) : RAgg B0 O a l d s n c hub tip W (.agg #[.slice Ra (gLp O a).length da, .slice Rb (gLp O l).length db, .slice Rc (gLp O d).length dc, .slice Rd (gN O n) dd, .int .i64 (gC O c), .float .f32 (gN O hub), .float .f32 (gN O tip)]) := ⟨Ra, Rb, Rc, Rd, da, db, dc, dd, ka, kb, kc, kd, rfl, h⟩
theorem RGiv.ko (h : RGiv B0 O a l d s n c hub tip W v) (k : KO W W') : RGiv B0 O a l d s n c hub tip W' v := by
  obtain ⟨Ra, Rb, Rc, Rd, da, db, dc, dd, ka, kb, kc, kd, rfl, h⟩ := h
  exact .mk' (h.ko k)
theorem RAgg.ko (h : RAgg B0 O a l d s n c hub tip W v) (k : KO W W') : RAgg B0 O a l d s n c hub tip W' v := by
  obtain ⟨Ra, Rb, Rc, Rd, da, db, dc, dd, ka, kb, kc, kd, rfl, h⟩ := h
  exact .mk' (h.ko k)
theorem RFin.below (h : RFin B0 O a l d s n c hub tip v W) (hb : Below W.heap.size W W') : RFin B0 O a l d s n c hub tip v W' := by
  obtain ⟨B, Ra, Rb, Rc, Rd, da, db, dc, dd, ka, kb, kc, kd, rfl, hlo, hk, ho⟩ := h
  exact ⟨B, Ra, Rb, Rc, Rd, da, db, dc, dd, ka, kb, kc, kd, rfl, hlo, hk.below hb, ho.below hb⟩
end
structure CR (w1 : World) (al st sl : Nat) (O : Bool) (a l d s : List Nat) (n : Nat) (c : Int) (hub tip : Nat) (listed : Array Bool) (x : Act) (ww : World) : Prop where
  below : Below w1.heap.size w1 ww
  blk : listed.getD al false = true → listed.getD st false = false → ∃ B, x.tmps.getD sl undef = .pointer (some ⟨B, 0, none⟩) ∧ w1.heap.size ≤ B ∧ BlkL ww B [.slice none 0 0, .slice none 0 0, .slice none 0 0, .slice none 0 0, .int .i64 0, .float .f32 0, .float .f32 0]
  fin : listed.getD st false = true → RFin w1.heap.size O a l d s n c hub tip (x.tmps.getD sl undef) ww
section
variable {w1 ww ww' : World} {al st sl k m : Nat} {O : Bool} {a l d s : List Nat} {n : Nat} {c : Int} {hub tip : Nat} {listed : Array Bool} {x x' : Act}
theorem CR.start : CR w1 al st sl O a l d s n c hub tip (Array.replicate m false) x { w1 with drawn := w1.drawn + 1 } := by
  have f : ∀ i, (Array.replicate m false).getD i false = false := by
    intro i
    rw [Array.getD_eq_getD_getElem?, Array.getElem?_replicate]
    split <;> rfl
  exact ⟨(Below.refl _ _).drew, fun h => absurd (h.symm.trans (f _)) (by decide), fun h => absurd (h.symm.trans (f _)) (by decide)⟩
theorem CR.step (h : CR w1 al st sl O a l d s n c hub tip listed x ww) (hs : listed.size = m) (hn : k < m) (hal : k ≠ al) (hst : k ≠ st) (t : Nat) (ht : sl ≠ t) (v : Value) (hb : Below ww.heap.size ww ww') : CR w1 al st sl O a l d s n c hub tip (listed.setIfInBounds k true) (x.put (some t) v) ww' := by
  have he := put_getD x t sl v ht
  have e : ∀ i, i ≠ k → (listed.setIfInBounds k true).getD i false = listed.getD i false := fun i hi => by rw [getD_set (by omega), if_neg (fun x => hi x.symm)]
  refine ⟨below_of h.below h.below.size hb, ?_, ?_⟩
  · rw [e al (fun x => hal x.symm), e st (fun x => hst x.symm)]
    intro h1 h2
    obtain ⟨B, g, hlo, hblk⟩ := h.blk h1 h2
    exact ⟨B, he.trans g, hlo, hblk.below hb⟩
  · rw [e st (fun x => hst x.symm)]
    intro h1
    rw [he]
    exact (h.fin h1).below hb
theorem CR.made (h : CR w1 al st sl O a l d s n c hub tip listed x ww) (hs : listed.size = m) (hn : al < m) (hst : al ≠ st) (hns : listed.getD st false = false) (hsl : sl < x.tmps.size) (t : TypeId) :
    CR w1 al st sl O a l d s n c hub tip (listed.setIfInBounds al true) (x.put (some sl) (.pointer (some ⟨ww.heap.size, 0, none⟩))) (ww.alloc (.cells #[.slice none 0 0, .slice none 0 0, .slice none 0 0, .slice none 0 0, .int .i64 0, .float .f32 0, .float .f32 0] t)) := by
  have e : (listed.setIfInBounds al true).getD st false = listed.getD st false := by rw [getD_set (by omega), if_neg hst]
  refine ⟨below_of h.below h.below.size ((Below.refl _ _).alloc (Nat.le_refl _) _), fun _ _ => ⟨ww.heap.size, ?_, h.below.size, blkL_at ww #[_, _, _, _, _, _, _] t rfl⟩, fun h1 => absurd ((e.trans hns).symm.trans h1) (by decide)⟩
  unfold Act.put
  simp only [Array.getD_eq_getD_getElem?]
  rw [Array.getElem?_setIfInBounds, if_pos rfl, if_pos hsl]
  rfl
theorem CR.stored (h : CR w1 al st sl O a l d s n c hub tip listed x ww) (hs : listed.size = m) (hn : st < m) (hb : Below w1.heap.size w1 ww') (hf : RFin w1.heap.size O a l d s n c hub tip (x.tmps.getD sl undef) ww') (v : Value) : CR w1 al st sl O a l d s n c hub tip (listed.setIfInBounds st true) (x.put Option.none v) ww' := by
  have _ := h
  have e : (listed.setIfInBounds st true).getD st false = true := by rw [getD_set (by omega), if_pos rfl]
  exact ⟨hb, fun _ h2 => absurd (h2.symm.trans e) (by decide), fun _ => hf⟩
end
end Go.Proofs.Ytiiiigldpbomkaa
