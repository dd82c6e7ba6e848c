/- As XInv's law on regions, with the fact that the operation has not come up yet. No statement is proved here. -/
import Derived.Test.YtahbcpjipomcgaaGreatInv
namespace Go.Proofs.YtahbcpjipomcgaaGreat
open Go Go.RowKit
theorem wp_region_inv2 {P : Program} {ops : Array Oper} {Q : Exit → Act → World → Prop} {id : Nat} {a0 : Act} {w : World} (V : Nat → Value → Prop) (C : Array Bool → World → Prop) (hm : P.follows .mixedOrders = true) (hp : plainOps ops a0.tmps.size = true)
    (hstart : C (Array.replicate ops.size false) { w with drawn := w.drawn + 1 })
    (hop : ∀ (i : Nat) (o : Oper), ops[i]? = some o → ∀ listed a w, RI ops V C a0 listed a w → listed.getD i false = false → (∀ e ∈ o.after, Region.binds .any e = true → listed.getD e.on false = true) →
      o.wp P a w (fun a' w' => ∃ v, a' = a.put o.dst v ∧ V i v ∧ C (listed.setIfInBounds i true) w') Q)
    (hend : ∀ listed a w, RI ops V C a0 listed a w → (∀ (i : Nat), i < ops.size → listed.getD i false = true) → Q .normal a w) : (Code.region id ops true).wp P Q a0 w := by
  refine wp_region_any hm (wpAny_inv (RI ops V C a0) ?_ ?_ _ _ _ _ ⟨hstart, by simp, rfl, rfl, fun _ _ => rfl, ?_⟩ ?_)
  · intro listed a w i hI hr
    obtain ⟨hnot, o, hi, hall⟩ := mem_ready.1 hr
    have hlt : i < ops.size := (Array.getElem?_eq_some_iff.1 hi).1
    have hnot' : listed.getD i false = false := by
      have : i < listed.size := by rw [hI.len]; exact hlt
      rw [Array.getD_eq_getD_getElem?] at hnot ⊢
      rw [Array.getElem?_eq_getElem this] at hnot ⊢
      exact hnot
    unfold wpOp
    rw [hi]
    have hw : Region.wanted o (yielded ops a.tmps) = true := by unfold Region.wanted; rw [(plainOps_at hp hi).1]
    simp only [hw, if_true]
    refine .inl (Oper.wp_mono (fun a' w' h' => ?_) (hop i o hi listed a w hI hnot' hall))
    obtain ⟨v, rfl, hv, hc⟩ := h'
    exact hI.put hp hi hv hc
  · intro listed a w hI hnil
    refine hend listed a w hI ?_
    intro i
    induction i using Nat.strongRecOn with
    | ind i ih =>
      intro hlt
      cases hl : listed.getD i false with
      | true => rfl
      | false =>
        exfalso
        have ho : ops[i]? = some ops[i] := Array.getElem?_eq_getElem hlt
        have hmem : i ∈ Region.ready .any ops listed := by
          refine mem_ready.2 ⟨?_, ops[i], ho, fun e he _ => ?_⟩
          · have : i < listed.size := by rw [hI.len]; exact hlt
            rw [Array.getD_eq_getD_getElem?] at hl ⊢
            rw [Array.getElem?_eq_getElem this] at hl ⊢
            exact hl
          · have := (plainOps_at hp ho).2.1 e he
            exact ih e.on this (by omega)
        rw [hnil] at hmem
        cases hmem
  · intro i o t hi _ hl
    have hlt : i < ops.size := (Array.getElem?_eq_some_iff.1 hi).1
    rw [Array.getD_eq_getD_getElem?, Array.getElem?_replicate, if_pos hlt] at hl
    cases hl
  · unfold left
    rw [Array.toList_replicate, List.count_replicate]
    simp
end Go.Proofs.YtahbcpjipomcgaaGreat
