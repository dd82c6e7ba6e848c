/- A drawn region that stores into one block of the call's own: what holds all along. No statement is proved here. -/
import Derived.Test.YtknabmknboffgaaGreatDoorMarkR
namespace Go.Proofs.YtknabmknboffgaaGreatDoor
open Go Go.RowKit
/-- nothing else than RB has turned since w1; RB has n cells; once the store has come up, Fin holds -/
def StC (w1 : World) (RB n st : Nat) (Fin : World → Prop) (listed : Array Bool) (ww : World) : Prop :=
  Turn w1 ww (fun b => b = RB) ∧ (∃ vs, BlkL ww RB vs ∧ vs.length = n) ∧ (listed.getD st false = true → Fin ww)
theorem StC.step {w1 ww ww' : World} {RB n st k : Nat} {Fin : World → Prop} {listed : Array Bool} (h : StC w1 RB n st Fin listed ww) (hb : Below ww.heap.size ww ww') (hf : ∀ a b, Below a.heap.size a b → Fin a → Fin b) (hk : k ≠ st) (hsz : k < listed.size) :
    StC w1 RB n st Fin (listed.setIfInBounds k true) ww' := by
  obtain ⟨h1, ⟨vs, h2, h3⟩, h4⟩ := h
  refine ⟨h1.trans (Turn.of_below hb _), ⟨vs, h2.below hb, h3⟩, fun hl => hf _ _ hb (h4 ?_)⟩
  rw [getD_set hsz, if_neg hk] at hl
  exact hl
theorem StC.store {w1 ww ww' : World} {RB n st : Nat} {Fin : World → Prop} {listed : Array Bool} (h : StC w1 RB n st Fin listed ww) (ht : Turn ww ww' (fun b => b = RB)) {vs : List Value} (hv : BlkL ww' RB vs) (hn : vs.length = n) (hf : Fin ww') :
    StC w1 RB n st Fin (listed.setIfInBounds st true) ww' := ⟨h.1.trans ht, ⟨vs, hv, hn⟩, fun _ => hf⟩
theorem StC.start {w1 : World} {RB n st m : Nat} {Fin : World → Prop} {vs : List Value} (hb : BlkL w1 RB vs) (hn : vs.length = n) : StC w1 RB n st Fin (Array.replicate m false) { w1 with drawn := w1.drawn + 1 } := by
  refine ⟨Turn.of_below ((Below.refl _ _).drew) _, ⟨vs, hb.below ((Below.refl _ _).drew), hn⟩, fun hl => ?_⟩
  simp [Array.getD] at hl
theorem Turn.sets (w : World) (RB : Nat) : ∀ (us : List (Nat × Value)), Turn w (us.foldl (fun a u => a.setCell ⟨RB, u.1, none⟩ u.2) w) (fun b => b = RB) := by
  intro us
  induction us generalizing w with
  | nil => exact Turn.refl _ _
  | cons u us ih => exact (Turn.set w ⟨RB, u.1, none⟩ rfl u.2).trans (ih _)
end Go.Proofs.YtknabmknboffgaaGreatDoor
