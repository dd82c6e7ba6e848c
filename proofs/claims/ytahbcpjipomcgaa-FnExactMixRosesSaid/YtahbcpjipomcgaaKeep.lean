/- Drawn regions that make a profile and store it into a block of their own. No statement is proved here. -/
import Derived.Test.YtahbcpjipomcgaaPim
import Derived.Test.YtahbcpjipomcgaaInv5
namespace Go.Proofs.Ytahbcpjipomcgaa
open Go Go.RowKit
section
variable {P : Program} {ops : Array Oper} {md : Region.Mode} {Q : Exit → Act → World → Prop}
theorem wp_region_inv7B {id : Nat} {a0 : Act} {w : World} (V : Nat → World → Value → Prop) (C : Array Bool → Act → World → Prop) (R : World → World → Prop) (hmono : ∀ i w w' v, R w w' → V i w v → V i w' v) (hm : P.follows .mixedOrders = true) (hp : slotOpsB ops a0.tmps.size = true)
    (hstart : C (Array.replicate ops.size false) a0 { w with drawn := w.drawn + 1 })
    (hop : ∀ (i : Nat) (o : Oper), ops[i]? = some o → ∀ listed a w, RJ ops V (fun _ _ => True) a0 listed a w → C listed a w → listed.getD i false = false → Closed ops listed → (∀ e ∈ o.after, Region.binds .any e = true → listed.getD e.on false = true) →
      (Region.wanted o (yielded ops a.tmps) = true ∧ o.wp P a w (fun a' w' => ∃ v, a' = a.put o.dst v ∧ R w w' ∧ V i w' v ∧ C (listed.setIfInBounds i true) (a.put o.dst v) w') Q) ∨ (Region.wanted o (yielded ops a.tmps) = false ∧ V i w undef ∧ C (listed.setIfInBounds i true) (a.put o.dst undef) w))
    (hend : ∀ listed a w, RJ ops V (fun _ _ => True) a0 listed a w → C listed a w → (∀ (i : Nat), i < ops.size → listed.getD i false = true) → Q .normal a w) : (Code.region id ops true).wp P Q a0 w := by
  refine wp_region_any hm (wpAny_inv (fun listed a w => RJ ops V (fun _ _ => True) a0 listed a w ∧ C listed a w ∧ Closed ops listed) ?_ ?_ _ _ _ _ ⟨⟨trivial, by simp, rfl, rfl, fun _ _ => rfl, ?_⟩, hstart, ?_⟩ ?_)
  · rintro listed a w i ⟨hI, hC, hcl⟩ hr
    obtain ⟨hnot, o, hi, hall⟩ := mem_ready.1 hr
    have hlt : i < ops.size := (Array.getElem?_eq_some_iff.1 hi).1
    have hnot' : listed.getD i false = false := by
      have : i < listed.size := by rw [hI.len]; exact hlt
      rw [Array.getD_eq_getD_getElem?] at hnot ⊢
      rw [Array.getElem?_eq_getElem this] at hnot ⊢
      exact hnot
    have hil : i < listed.size := by rw [hI.len]; exact hlt
    have hcl' : Closed ops (listed.setIfInBounds i true) := by
      intro j q hj hl e he hb
      rw [getD_set hil] at hl ⊢
      split
      · rfl
      · split at hl
        · rename_i hij; subst hij
          obtain rfl : o = q := Option.some.inj (hi.symm.trans hj)
          exact hall e he hb
        · exact hcl j q hj hl e he hb
    unfold wpOp
    rw [hi]
    rcases hop i o hi listed a w hI hC hnot' hcl hall with ⟨hw, h'⟩ | ⟨hw, hv, hc⟩
    · simp only [hw, if_true]
      refine .inl (Oper.wp_mono (fun a' w' h' => ?_) h')
      obtain ⟨v, rfl, hR, hv, hc⟩ := h'
      exact ⟨hI.putB hp (fun i v => hmono i _ _ v hR) hi hv trivial, hc, hcl'⟩
    · simp only [hw, Bool.false_eq_true, if_false]
      exact ⟨hI.putB hp (fun _ _ h => h) hi hv trivial, hc, hcl'⟩
  · rintro listed a w ⟨hI, hC, -⟩ hnil
    refine hend listed a w hI hC ?_
    intro i
    induction i using Nat.strongRecOn with
    | ind i ih =>
      intro hlt
      cases hl : listed.getD i false with
      | true => rfl
      | false =>
        exfalso
        have ho : ops[i]? = some ops[i] := Array.getElem?_eq_getElem hlt
        have hmem : i ∈ Region.ready .any ops listed := by
          refine mem_ready.2 ⟨?_, ops[i], ho, fun e he hbb => ?_⟩
          · have : i < listed.size := by rw [hI.len]; exact hlt
            rw [Array.getD_eq_getD_getElem?] at hl ⊢
            rw [Array.getElem?_eq_getElem this] at hl ⊢
            exact hl
          · have := (slotOpsB_at hp ho).1 e he hbb
            exact ih e.on this (by omega)
        rw [hnil] at hmem
        cases hmem
  · intro i o t hi _ hl
    have hlt : i < ops.size := (Array.getElem?_eq_some_iff.1 hi).1
    rw [Array.getD_eq_getD_getElem?, Array.getElem?_replicate, if_pos hlt] at hl
    cases hl
  · intro i o hi hl
    have hlt : i < ops.size := (Array.getElem?_eq_some_iff.1 hi).1
    rw [Array.getD_eq_getD_getElem?, Array.getElem?_replicate, if_pos hlt] at hl
    cases hl
  · unfold left
    rw [Array.toList_replicate, List.count_replicate]
    simp
end
/-- lists of the call's own stay as they are -/
def KO (wa wb : World) : Prop := wa.heap.size ≤ wb.heap.size ∧ ∀ g xs, xs ≠ [] → Own wa g xs → Own wb g xs
theorem KO.of_below {wa wb : World} (h : Below wa.heap.size wa wb) : KO wa wb := ⟨h.size, fun _ _ _ ho => ho.below h⟩
theorem OwnO.ko {wa wb : World} {B0 b : Nat} {A : Option Addr} {xs : List Nat} (h : OwnO wa B0 A b xs) (k : KO wa wb) : OwnO wb B0 A b xs := by
  rcases h with h | ⟨h1, h2, h3⟩
  · exact .inl h
  · by_cases hx : xs = []
    · exact .inl hx
    · exact .inr ⟨h1, h2, k.2 _ _ hx h3⟩
theorem OwnQ.ko {wa wb : World} {B0 b1 b2 b3 : Nat} {A L D : Option Addr} {a l d : List Nat} (h : OwnQ wa B0 A L D b1 b2 b3 a l d) (k : KO wa wb) : OwnQ wb B0 A L D b1 b2 b3 a l d :=
  ⟨h.1.ko k, h.2.1.ko k, h.2.2.1.ko k, h.2.2.2⟩
theorem KO.store3 {w : World} {B : Nat} {p0 p1 p2 : Option Addr} {n0 n1 n2 c0 c1 c2 : Nat} (h : BlkL w B [.slice p0 n0 c0, .slice p1 n1 c1, .slice p2 n2 c2]) (u0 u1 u2 : Value) :
    KO w (((w.setCell ⟨B, 0, none⟩ u0).setCell ⟨B, 1, none⟩ u1).setCell ⟨B, 2, none⟩ u2) := by
  refine ⟨by simp [World.setCell], fun g xs hx ho => ?_⟩
  have hne : B ≠ g := by
    intro e
    subst e
    have h1 := (ho.2 0 (by cases xs with | nil => exact absurd rfl hx | cons x t => simp)).1
    rw [(h.2 0 _ rfl).1] at h1
    cases h1
  exact ((ho.setCell (p := ⟨B, 0, none⟩) hne u0).setCell (p := ⟨B, 1, none⟩) hne u1).setCell (p := ⟨B, 2, none⟩) hne u2
theorem PGiv.ko {B0 : Nat} {O : Bool} {X Y Z : List Nat} {W W' : World} {v : Value} (h : PGiv B0 O X Y Z W v) (k : KO W W') : PGiv B0 O X Y Z W' v := by
  obtain ⟨Ra, Rb, Rc, da, db, dc, ka, kb, kc, rfl, h⟩ := h
  exact .mk' (h.ko k)
theorem PAgg.ko {B0 : Nat} {O : Bool} {X Y Z : List Nat} {W W' : World} {v : Value} (h : PAgg B0 O X Y Z W v) (k : KO W W') : PAgg B0 O X Y Z W' v := by
  obtain ⟨Ra, Rb, Rc, da, db, dc, ka, kb, kc, rfl, h⟩ := h
  exact .mk' (h.ko k)
/-- the profile lies in the block that the slot tells -/
def PFinB (sl B0 : Nat) (O : Bool) (X Y Z : List Nat) (a : Act) (W : World) : Prop :=
  ∃ (B : Nat) (Ra Rb Rc : Option Addr) (da db dc ka kb kc : Nat), a.tmps.getD sl undef = .pointer (some ⟨B, 0, none⟩) ∧ B0 ≤ B ∧ BlkL W B [.slice Ra (gLp O X).length da, .slice Rb (gLp O Y).length db, .slice Rc (gLp O Z).length dc] ∧ OwnQ W B0 Ra Rb Rc ka kb kc (gLp O X) (gLp O Y) (gLp O Z)
structure CM (w1 : World) (al st sl : Nat) (O : Bool) (X Y Z : List Nat) (listed : Array Bool) (a : Act) (ww : World) : Prop where
  below : Below w1.heap.size w1 ww
  blk : listed.getD al false = true → listed.getD st false = false → ∃ B, a.tmps.getD sl undef = .pointer (some ⟨B, 0, none⟩) ∧ w1.heap.size ≤ B ∧ BlkL ww B [.slice none 0 0, .slice none 0 0, .slice none 0 0]
  fin : listed.getD st false = true → PFinB sl w1.heap.size O X Y Z a ww
section
variable {w1 ww ww' : World} {al st sl k n : Nat} {O : Bool} {X Y Z : List Nat} {listed : Array Bool} {a a' : Act}
theorem CM.start : CM w1 al st sl O X Y Z (Array.replicate n false) a { w1 with drawn := w1.drawn + 1 } := by
  have f : ∀ i, (Array.replicate n false).getD i false = false := by
    intro i
    rw [Array.getD_eq_getD_getElem?, Array.getElem?_replicate]
    split <;> rfl
  exact ⟨(Below.refl _ _).drew, fun h => absurd (h.symm.trans (f _)) (by decide), fun h => absurd (h.symm.trans (f _)) (by decide)⟩
theorem CM.stepA (h : CM w1 al st sl O X Y Z listed a ww) (hs : listed.size = n) (hn : k < n) (hal : k ≠ al) (hst : k ≠ st) (he : a'.tmps.getD sl undef = a.tmps.getD sl undef) (hb : Below ww.heap.size ww ww') : CM w1 al st sl O X Y Z (listed.setIfInBounds k true) a' ww' := by
  have e : ∀ i, i ≠ k → (listed.setIfInBounds k true).getD i false = listed.getD i false := fun i hi => by rw [getD_set (by omega), if_neg (fun x => hi x.symm)]
  refine ⟨below_of h.below h.below.size hb, ?_, ?_⟩
  · rw [e al (fun x => hal x.symm), e st (fun x => hst x.symm)]
    intro h1 h2
    obtain ⟨B, g, hlo, hblk⟩ := h.blk h1 h2
    exact ⟨B, he.trans g, hlo, hblk.below hb⟩
  · rw [e st (fun x => hst x.symm)]
    intro h1
    obtain ⟨B, Ra, Rb, Rc, da, db, dc, ka, kb, kc, g, hlo, hblk, ho⟩ := h.fin h1
    exact ⟨B, Ra, Rb, Rc, da, db, dc, ka, kb, kc, he.trans g, hlo, hblk.below hb, ho.below hb⟩
theorem CM.step (h : CM w1 al st sl O X Y Z listed a ww) (hs : listed.size = n) (hn : k < n) (hal : k ≠ al) (hst : k ≠ st) (t : Nat) (ht : sl ≠ t) (v : Value) (hb : Below ww.heap.size ww ww') : CM w1 al st sl O X Y Z (listed.setIfInBounds k true) (a.put (some t) v) ww' :=
  h.stepA hs hn hal hst (put_getD a t sl v ht) hb
theorem CM.made (h : CM w1 al st sl O X Y Z listed a ww) (hs : listed.size = n) (hn : al < n) (hst : al ≠ st) (hns : listed.getD st false = false) (hsl : sl < a.tmps.size) (t : TypeId) :
    CM w1 al st sl O X Y Z (listed.setIfInBounds al true) (a.put (some sl) (.pointer (some ⟨ww.heap.size, 0, none⟩))) (ww.alloc (.cells #[.slice none 0 0, .slice none 0 0, .slice none 0 0] t)) := by
  have e : (listed.setIfInBounds al true).getD st false = listed.getD st false := by rw [getD_set (by omega), if_neg hst]
  refine ⟨below_of h.below h.below.size ((Below.refl _ _).alloc (Nat.le_refl _) _), fun _ _ => ⟨ww.heap.size, ?_, h.below.size, blkL_at ww #[_, _, _] t rfl⟩, fun h1 => absurd ((e.trans hns).symm.trans h1) (by decide)⟩
  unfold Act.put
  simp only [Array.getD_eq_getD_getElem?]
  rw [Array.getElem?_setIfInBounds, if_pos rfl, if_pos hsl]
  rfl
theorem CM.stored (h : CM w1 al st sl O X Y Z listed a ww) (hs : listed.size = n) (hn : st < n) (hb : Below w1.heap.size w1 ww') (hf : PFinB sl w1.heap.size O X Y Z a ww') (v : Value) : CM w1 al st sl O X Y Z (listed.setIfInBounds st true) (a.put Option.none v) ww' := by
  have _ := h
  have e : (listed.setIfInBounds st true).getD st false = true := by rw [getD_set (by omega), if_pos rfl]
  exact ⟨hb, fun _ h2 => absurd (h2.symm.trans e) (by decide), fun _ => hf⟩
end
end Go.Proofs.Ytahbcpjipomcgaa
