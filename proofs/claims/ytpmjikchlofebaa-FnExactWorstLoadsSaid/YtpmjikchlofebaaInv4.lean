/- As XInv3's law on regions, where what an operation leaves may speak of the world, and stays true while the world grows. No statement is proved here. -/
import Derived.Test.YtpmjikchlofebaaInv3
namespace Go.Proofs.Ytpmjikchlofebaa
open Go Go.RowKit
section
variable {P : Program} {ops : Array Oper} {md : Region.Mode} {Q : Exit → Act → World → Prop}
structure RJ (ops : Array Oper) (V : Nat → World → Value → Prop) (C : Array Bool → World → Prop) (a0 : Act) (listed : Array Bool) (a : Act) (w : World) : Prop where
  cls : C listed w
  len : listed.size = ops.size
  defers : a.defers = a0.defers
  size : a.tmps.size = a0.tmps.size
  old : ∀ t, (∀ (i : Nat) (o : Oper), ops[i]? = some o → o.dst = some t → listed.getD i false = false) → a.tmps.getD t undef = a0.tmps.getD t undef
  new : ∀ (i : Nat) (o : Oper) t, ops[i]? = some o → o.dst = some t → listed.getD i false = true → V i w (a.tmps.getD t undef)
theorem RJ.put {V : Nat → World → Value → Prop} {C : Array Bool → World → Prop} {a0 a : Act} {listed : Array Bool} {w w' : World} (hp : slotOps ops a0.tmps.size = true) (h : RJ ops V C a0 listed a w) (hmono : ∀ i v, V i w v → V i w' v) {i : Nat} {o : Oper} (hi : ops[i]? = some o)
    {v : Value} (hv : V i w' v) (hc : C (listed.setIfInBounds i true) w') : RJ ops V C a0 (listed.setIfInBounds i true) (a.put o.dst v) w' := by
  have hlt : i < ops.size := (Array.getElem?_eq_some_iff.1 hi).1
  have hil : i < listed.size := by rw [h.len]; exact hlt
  obtain ⟨-, hd⟩ := slotOps_at hp hi
  refine ⟨hc, by rw [Array.size_setIfInBounds]; exact h.len, ?_, ?_, ?_, ?_⟩
  · unfold Act.put; split <;> exact h.defers
  · unfold Act.put; split
    · rw [Array.size_setIfInBounds]; exact h.size
    · exact h.size
  · intro t ht
    have hne : o.dst ≠ some t := by
      intro he
      have := ht i o hi he
      rw [getD_set hil, if_pos rfl] at this
      cases this
    have hold := h.old t (fun j q hj hq => by
      have := ht j q hj hq
      rw [getD_set hil] at this
      split at this
      · cases this
      · exact this)
    unfold Act.put
    cases ho : o.dst with
    | none => exact hold
    | some u =>
      have hut : u ≠ t := fun e => hne (by rw [ho, e])
      show (a.tmps.setIfInBounds u v).getD t undef = _
      rw [getD_put (by rw [h.size]; exact (hd u ho).1), if_neg hut]
      exact hold
  · intro j q t hj hq hl
    rw [getD_set hil] at hl
    by_cases e : i = j
    · subst e
      obtain rfl : o = q := Option.some.inj (hi.symm.trans hj)
      unfold Act.put
      rw [hq]
      show V i w' ((a.tmps.setIfInBounds t v).getD t undef)
      rw [getD_put (by rw [h.size]; exact (hd t hq).1), if_pos rfl]
      exact hv
    · rw [if_neg e] at hl
      have hold := h.new j q t hj hq hl
      unfold Act.put
      cases ho : o.dst with
      | none => exact hmono _ _ hold
      | some u =>
        have hut : u ≠ t := fun e' => e ((hd u ho).2 j q hj (by rw [hq, e'])).symm
        show V j w' ((a.tmps.setIfInBounds u v).getD t undef)
        rw [getD_put (by rw [h.size]; exact (hd u ho).1), if_neg hut]
        exact hmono _ _ hold
theorem RJ.kept {V : Nat → World → Value → Prop} {C : Array Bool → World → Prop} {a0 a : Act} {listed : Array Bool} {w : World} (h : RJ ops V C a0 listed a w) (t : Tmp) (ht : ops.all (fun o => o.dst != some t) = true) :
    a.tmps[t]?.getD undef = a0.tmps.getD t undef := by
  rw [← Array.getD_eq_getD_getElem?]
  refine h.old t (fun i o hi ho => ?_)
  have hlt : i < ops.size := (Array.getElem?_eq_some_iff.1 hi).1
  have h1 := Array.all_eq_true.1 ht i hlt
  have h2 : ops[i] = o := (Array.getElem?_eq_some_iff.1 hi).2
  rw [h2, ho] at h1
  simp at h1
theorem RJ.keptN {V : Nat → World → Value → Prop} {C : Array Bool → World → Prop} {a0 a : Act} {listed : Array Bool} {w : World} (h : RJ ops V C a0 listed a w) (t : Tmp) (j : Nat) (ht : ((List.range ops.size).all fun i => decide (i = j) || (match ops[i]? with | none => true | some q => q.dst != some t)) = true) (hl : listed.getD j false = false) :
    a.tmps[t]?.getD undef = a0.tmps.getD t undef := by
  rw [← Array.getD_eq_getD_getElem?]
  refine h.old t (fun i o hi ho => ?_)
  have hlt : i < ops.size := (Array.getElem?_eq_some_iff.1 hi).1
  have h1 := List.all_eq_true.1 ht i (List.mem_range.2 hlt)
  simp only [hi, ho, Bool.or_eq_true, decide_eq_true_eq] at h1
  rcases h1 with rfl | h1
  · exact hl
  · simp at h1
theorem RJ.has {V : Nat → World → Value → Prop} {C : Array Bool → World → Prop} {a0 a : Act} {listed : Array Bool} {w : World} (h : RJ ops V C a0 listed a w) (i : Nat) (t : Tmp) (hi : (ops[i]?).bind (·.dst) = some t) (hl : listed.getD i false = true) :
    V i w (a.tmps[t]?.getD undef) := by
  rw [← Array.getD_eq_getD_getElem?]
  cases ho : ops[i]? with
  | none => rw [ho] at hi; cases hi
  | some o => rw [ho] at hi; exact h.new i o t ho hi hl
/-- A region that draws its order; what has come up may speak of the world, and stays true along R. -/
theorem wp_region_inv4 {id : Nat} {a0 : Act} {w : World} (V : Nat → World → Value → Prop) (C : Array Bool → World → Prop) (R : World → World → Prop) (hmono : ∀ i w w' v, R w w' → V i w v → V i w' v) (hm : P.follows .mixedOrders = true) (hp : slotOps ops a0.tmps.size = true)
    (hstart : C (Array.replicate ops.size false) { w with drawn := w.drawn + 1 })
    (hop : ∀ (i : Nat) (o : Oper), ops[i]? = some o → ∀ listed a w, RJ ops V C a0 listed a w → listed.getD i false = false → Closed ops listed → (∀ e ∈ o.after, Region.binds .any e = true → listed.getD e.on false = true) →
      (Region.wanted o (yielded ops a.tmps) = true ∧ o.wp P a w (fun a' w' => ∃ v, a' = a.put o.dst v ∧ R w w' ∧ V i w' v ∧ C (listed.setIfInBounds i true) w') Q) ∨ (Region.wanted o (yielded ops a.tmps) = false ∧ V i w undef ∧ C (listed.setIfInBounds i true) w))
    (hend : ∀ listed a w, RJ ops V C a0 listed a w → (∀ (i : Nat), i < ops.size → listed.getD i false = true) → Q .normal a w) : (Code.region id ops true).wp P Q a0 w := by
  refine wp_region_any hm (wpAny_inv (fun listed a w => RJ ops V C a0 listed a w ∧ Closed ops listed) ?_ ?_ _ _ _ _ ⟨⟨hstart, by simp, rfl, rfl, fun _ _ => rfl, ?_⟩, ?_⟩ ?_)
  · rintro listed a w i ⟨hI, hcl⟩ hr
    obtain ⟨hnot, o, hi, hall⟩ := mem_ready.1 hr
    have hlt : i < ops.size := (Array.getElem?_eq_some_iff.1 hi).1
    have hnot' : listed.getD i false = false := by
      have : i < listed.size := by rw [hI.len]; exact hlt
      rw [Array.getD_eq_getD_getElem?] at hnot ⊢
      rw [Array.getElem?_eq_getElem this] at hnot ⊢
      exact hnot
    have hil : i < listed.size := by rw [hI.len]; exact hlt
    have hcl' : Closed ops (listed.setIfInBounds i true) := by
      intro j q hj hl e he hb
      rw [getD_set hil] at hl ⊢
      split
      · rfl
      · split at hl
        · rename_i hij; subst hij
          obtain rfl : o = q := Option.some.inj (hi.symm.trans hj)
          exact hall e he hb
        · exact hcl j q hj hl e he hb
    unfold wpOp
    rw [hi]
    rcases hop i o hi listed a w hI hnot' hcl hall with ⟨hw, h'⟩ | ⟨hw, hv, hc⟩
    · simp only [hw, if_true]
      refine .inl (Oper.wp_mono (fun a' w' h' => ?_) h')
      obtain ⟨v, rfl, hR, hv, hc⟩ := h'
      exact ⟨hI.put hp (fun i v => hmono i _ _ v hR) hi hv hc, hcl'⟩
    · simp only [hw, Bool.false_eq_true, if_false]
      exact ⟨hI.put hp (fun _ _ h => h) hi hv hc, hcl'⟩
  · rintro listed a w ⟨hI, -⟩ hnil
    refine hend listed a w hI ?_
    intro i
    induction i using Nat.strongRecOn with
    | ind i ih =>
      intro hlt
      cases hl : listed.getD i false with
      | true => rfl
      | false =>
        exfalso
        have ho : ops[i]? = some ops[i] := Array.getElem?_eq_getElem hlt
        have hmem : i ∈ Region.ready .any ops listed := by
          refine mem_ready.2 ⟨?_, ops[i], ho, fun e he _ => ?_⟩
          · have : i < listed.size := by rw [hI.len]; exact hlt
            rw [Array.getD_eq_getD_getElem?] at hl ⊢
            rw [Array.getElem?_eq_getElem this] at hl ⊢
            exact hl
          · have := (slotOps_at hp ho).1 e he
            exact ih e.on this (by omega)
        rw [hnil] at hmem
        cases hmem
  · intro i o t hi _ hl
    have hlt : i < ops.size := (Array.getElem?_eq_some_iff.1 hi).1
    rw [Array.getD_eq_getD_getElem?, Array.getElem?_replicate, if_pos hlt] at hl
    cases hl
  · intro i o hi hl
    have hlt : i < ops.size := (Array.getElem?_eq_some_iff.1 hi).1
    rw [Array.getD_eq_getD_getElem?, Array.getElem?_replicate, if_pos hlt] at hl
    cases hl
  · unfold left
    rw [Array.toList_replicate, List.count_replicate]
    simp
end
end Go.Proofs.Ytpmjikchlofebaa
