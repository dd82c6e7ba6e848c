/- Drawn regions that make a rose and store it into a block of their own. No statement is proved here. -/
import Derived.Test.YtahbcpjipomcgaaKeep
import Derived.Test.YtahbcpjipomcgaaMxrI
namespace Go.Proofs.Ytahbcpjipomcgaa
open Go Go.RowKit
theorem OwnR2.koR {wa wb : World} {B0 b1 b2 : Nat} {A L : Option Addr} {a l : List Nat} (h : OwnR2 wa B0 A L b1 b2 a l) (k : KO wa wb) : OwnR2 wb B0 A L b1 b2 a l := ⟨h.1.ko k, h.2.1.ko k, h.2.2⟩
theorem OwnR2.ko {wa wb : World} {B0 b1 b2 : Nat} {A L : Option Addr} {a l : List Nat} (h : OwnR2 wa B0 A L b1 b2 a l) (k : KO wa wb) : OwnR2 wb B0 A L b1 b2 a l := h.koR k
theorem WGiv.mk' {B0 : Nat} {O : Bool} {X Y : List Nat} {W : World} {Ra Rb : Option Addr} {da db ka kb : Nat} (h : OwnR2 W B0 Ra Rb ka kb (gLn O X) (gLn O Y)) :
    WGiv B0 O X Y W (.tuple #[.agg #[.slice Ra (gLn O X).length da, .slice Rb (gLn O Y).length db], .bool O]) := ⟨Ra, Rb, da, db, ka, kb, rfl, h⟩
theorem WAgg.mk' {B0 : Nat} {O : Bool} {X Y : List Nat} {W : World} {Ra Rb : Option Addr} {da db ka kb : Nat} (h : OwnR2 W B0 Ra Rb ka kb (gLn O X) (gLn O Y)) :
    WAgg B0 O X Y W (.agg #[.slice Ra (gLn O X).length da, .slice Rb (gLn O Y).length db]) := ⟨Ra, Rb, da, db, ka, kb, rfl, h⟩
theorem WGiv.ko {B0 : Nat} {O : Bool} {X Y : List Nat} {W W' : World} {v : Value} (h : WGiv B0 O X Y W v) (k : KO W W') : WGiv B0 O X Y W' v := by
  obtain ⟨Ra, Rb, da, db, ka, kb, rfl, h⟩ := h
  exact .mk' (h.ko k)
theorem WAgg.ko {B0 : Nat} {O : Bool} {X Y : List Nat} {W W' : World} {v : Value} (h : WAgg B0 O X Y W v) (k : KO W W') : WAgg B0 O X Y W' v := by
  obtain ⟨Ra, Rb, da, db, ka, kb, rfl, h⟩ := h
  exact .mk' (h.ko k)
theorem KO.store2 {w : World} {B : Nat} {p0 p1 : Option Addr} {n0 n1 c0 c1 : Nat} (h : BlkL w B [.slice p0 n0 c0, .slice p1 n1 c1]) (u0 u1 : Value) :
    KO w ((w.setCell ⟨B, 0, none⟩ u0).setCell ⟨B, 1, none⟩ u1) := by
  refine ⟨by simp [World.setCell], fun g xs hx ho => ?_⟩
  have hne : B ≠ g := by
    intro e
    subst e
    have h1 := (ho.2 0 (by cases xs with | nil => exact absurd rfl hx | cons x t => simp)).1
    rw [(h.2 0 _ rfl).1] at h1
    cases h1
  exact (ho.setCell (p := ⟨B, 0, none⟩) hne u0).setCell (p := ⟨B, 1, none⟩) hne u1
/-- the rose lies in the block that the slot tells -/
def WFinB (sl B0 : Nat) (O : Bool) (X Y : List Nat) (a : Act) (W : World) : Prop :=
  ∃ (B : Nat) (Ra Rb : Option Addr) (da db ka kb : Nat), a.tmps.getD sl undef = .pointer (some ⟨B, 0, none⟩) ∧ B0 ≤ B ∧ BlkL W B [.slice Ra (gLn O X).length da, .slice Rb (gLn O Y).length db] ∧ OwnR2 W B0 Ra Rb ka kb (gLn O X) (gLn O Y)
structure CMs (w1 : World) (al st sl : Nat) (O : Bool) (X Y : List Nat) (listed : Array Bool) (a : Act) (ww : World) : Prop where
  below : Below w1.heap.size w1 ww
  blk : listed.getD al false = true → listed.getD st false = false → ∃ B, a.tmps.getD sl undef = .pointer (some ⟨B, 0, none⟩) ∧ w1.heap.size ≤ B ∧ BlkL ww B [.slice none 0 0, .slice none 0 0]
  fin : listed.getD st false = true → WFinB sl w1.heap.size O X Y a ww
section
variable {w1 ww ww' : World} {al st sl k n : Nat} {O : Bool} {X Y : List Nat} {listed : Array Bool} {a a' : Act}
theorem CMs.start : CMs w1 al st sl O X Y (Array.replicate n false) a { w1 with drawn := w1.drawn + 1 } := by
  have f : ∀ i, (Array.replicate n false).getD i false = false := by
    intro i
    rw [Array.getD_eq_getD_getElem?, Array.getElem?_replicate]
    split <;> rfl
  exact ⟨(Below.refl _ _).drew, fun h => absurd (h.symm.trans (f _)) (by decide), fun h => absurd (h.symm.trans (f _)) (by decide)⟩
theorem CMs.stepA (h : CMs w1 al st sl O X Y listed a ww) (hs : listed.size = n) (hn : k < n) (hal : k ≠ al) (hst : k ≠ st) (he : a'.tmps.getD sl undef = a.tmps.getD sl undef) (hb : Below ww.heap.size ww ww') : CMs w1 al st sl O X Y (listed.setIfInBounds k true) a' ww' := by
  have e : ∀ i, i ≠ k → (listed.setIfInBounds k true).getD i false = listed.getD i false := fun i hi => by rw [getD_set (by omega), if_neg (fun x => hi x.symm)]
  refine ⟨below_of h.below h.below.size hb, ?_, ?_⟩
  · rw [e al (fun x => hal x.symm), e st (fun x => hst x.symm)]
    intro h1 h2
    obtain ⟨B, g, hlo, hblk⟩ := h.blk h1 h2
    exact ⟨B, he.trans g, hlo, hblk.below hb⟩
  · rw [e st (fun x => hst x.symm)]
    intro h1
    obtain ⟨B, Ra, Rb, da, db, ka, kb, g, hlo, hblk, ho⟩ := h.fin h1
    exact ⟨B, Ra, Rb, da, db, ka, kb, he.trans g, hlo, hblk.below hb, ho.below hb⟩
theorem CMs.step (h : CMs w1 al st sl O X Y listed a ww) (hs : listed.size = n) (hn : k < n) (hal : k ≠ al) (hst : k ≠ st) (t : Nat) (ht : sl ≠ t) (v : Value) (hb : Below ww.heap.size ww ww') : CMs w1 al st sl O X Y (listed.setIfInBounds k true) (a.put (some t) v) ww' :=
  h.stepA hs hn hal hst (put_getD a t sl v ht) hb
theorem CMs.made (h : CMs w1 al st sl O X Y listed a ww) (hs : listed.size = n) (hn : al < n) (hst : al ≠ st) (hns : listed.getD st false = false) (hsl : sl < a.tmps.size) (t : TypeId) :
    CMs w1 al st sl O X Y (listed.setIfInBounds al true) (a.put (some sl) (.pointer (some ⟨ww.heap.size, 0, none⟩))) (ww.alloc (.cells #[.slice none 0 0, .slice none 0 0] t)) := by
  have e : (listed.setIfInBounds al true).getD st false = listed.getD st false := by rw [getD_set (by omega), if_neg hst]
  refine ⟨below_of h.below h.below.size ((Below.refl _ _).alloc (Nat.le_refl _) _), fun _ _ => ⟨ww.heap.size, ?_, h.below.size, blkL_at ww #[_, _] t rfl⟩, fun h1 => absurd ((e.trans hns).symm.trans h1) (by decide)⟩
  unfold Act.put
  simp only [Array.getD_eq_getD_getElem?]
  rw [Array.getElem?_setIfInBounds, if_pos rfl, if_pos hsl]
  rfl
theorem CMs.stored (h : CMs w1 al st sl O X Y listed a ww) (hs : listed.size = n) (hn : st < n) (hb : Below w1.heap.size w1 ww') (hf : WFinB sl w1.heap.size O X Y a ww') (v : Value) : CMs w1 al st sl O X Y (listed.setIfInBounds st true) (a.put Option.none v) ww' := by
  have _ := h
  have e : (listed.setIfInBounds st true).getD st false = true := by rw [getD_set (by omega), if_pos rfl]
  exact ⟨hb, fun _ h2 => absurd (h2.symm.trans e) (by decide), fun _ => hf⟩
end
end Go.Proofs.Ytahbcpjipomcgaa
