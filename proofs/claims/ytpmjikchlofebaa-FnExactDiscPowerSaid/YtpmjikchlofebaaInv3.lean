/- As XInv's law on regions, for operations behind '&&' and '||', too. No statement is proved here. -/
import Derived.Test.YtpmjikchlofebaaInv
namespace Go.Proofs.Ytpmjikchlofebaa
open Go Go.RowKit
section
variable {P : Program} {ops : Array Oper} {md : Region.Mode} {Q : Exit → Act → World → Prop}
/-- each operation has a slot of its own, each waits for earlier ones only -/
def slotOps (ops : Array Oper) (n : Nat) : Bool :=
  (List.range ops.size).all fun i => match ops[i]? with
    | none => false
    | some o => (o.after.all fun e => decide (e.on < i)) &&
      (match o.dst with
       | none => true
       | some t => decide (t < n) && ((List.range ops.size).all fun j => decide (j = i) || (match ops[j]? with | none => true | some q => q.dst != some t)))
theorem slotOps_at {n : Nat} (h : slotOps ops n = true) {i : Nat} {o : Oper} (hi : ops[i]? = some o) :
    (∀ e ∈ o.after, e.on < i) ∧ ∀ t, o.dst = some t → t < n ∧ ∀ (j : Nat) (q : Oper), ops[j]? = some q → q.dst = some t → j = i := by
  have hlt : i < ops.size := (Array.getElem?_eq_some_iff.1 hi).1
  have h1 := List.all_eq_true.1 h i (List.mem_range.2 hlt)
  simp only [hi, Bool.and_eq_true] at h1
  obtain ⟨ha, hd⟩ := h1
  refine ⟨fun e he => ?_, fun t ht => ?_⟩
  · obtain ⟨k, hk, rfl⟩ := Array.mem_iff_getElem.1 he
    exact of_decide_eq_true (Array.all_eq_true.1 ha k hk)
  · rw [ht] at hd
    simp only [Bool.and_eq_true] at hd
    refine ⟨of_decide_eq_true hd.1, fun j q hj hq => ?_⟩
    have hjl : j < ops.size := (Array.getElem?_eq_some_iff.1 hj).1
    have h2 := List.all_eq_true.1 hd.2 j (List.mem_range.2 hjl)
    simp only [hj, hq, Bool.or_eq_true, decide_eq_true_eq] at h2
    rcases h2 with h2 | h2
    · exact h2
    · simp at h2
theorem RI.put3 {V : Nat → Value → Prop} {C : Array Bool → World → Prop} {a0 a : Act} {listed : Array Bool} {w w' : World} (hp : slotOps ops a0.tmps.size = true) (h : RI ops V C a0 listed a w) {i : Nat} {o : Oper} (hi : ops[i]? = some o)
    {v : Value} (hv : V i v) (hc : C (listed.setIfInBounds i true) w') : RI ops V C a0 (listed.setIfInBounds i true) (a.put o.dst v) w' := by
  have hlt : i < ops.size := (Array.getElem?_eq_some_iff.1 hi).1
  have hil : i < listed.size := by rw [h.len]; exact hlt
  obtain ⟨-, hd⟩ := slotOps_at hp hi
  refine ⟨hc, by rw [Array.size_setIfInBounds]; exact h.len, ?_, ?_, ?_, ?_⟩
  · unfold Act.put; split <;> exact h.defers
  · unfold Act.put; split
    · rw [Array.size_setIfInBounds]; exact h.size
    · exact h.size
  · intro t ht
    have hne : o.dst ≠ some t := by
      intro he
      have := ht i o hi he
      rw [getD_set hil, if_pos rfl] at this
      cases this
    have hold := h.old t (fun j q hj hq => by
      have := ht j q hj hq
      rw [getD_set hil] at this
      split at this
      · cases this
      · exact this)
    unfold Act.put
    cases ho : o.dst with
    | none => exact hold
    | some u =>
      have hut : u ≠ t := fun e => hne (by rw [ho, e])
      show (a.tmps.setIfInBounds u v).getD t undef = _
      rw [getD_put (by rw [h.size]; exact (hd u ho).1), if_neg hut]
      exact hold
  · intro j q t hj hq hl
    rw [getD_set hil] at hl
    by_cases e : i = j
    · subst e
      obtain rfl : o = q := Option.some.inj (hi.symm.trans hj)
      unfold Act.put
      rw [hq]
      show V i ((a.tmps.setIfInBounds t v).getD t undef)
      rw [getD_put (by rw [h.size]; exact (hd t hq).1), if_pos rfl]
      exact hv
    · rw [if_neg e] at hl
      have hold := h.new j q t hj hq hl
      unfold Act.put
      cases ho : o.dst with
      | none => exact hold
      | some u =>
        have hut : u ≠ t := fun e' => e ((hd u ho).2 j q hj (by rw [hq, e'])).symm
        show V j ((a.tmps.setIfInBounds u v).getD t undef)
        rw [getD_put (by rw [h.size]; exact (hd u ho).1), if_neg hut]
        exact hold
/-- whether a guarded operation is wanted -/
theorem wanted_of {tmps : Array Value} {o : Oper} {j : Nat} {want b : Bool} {t : Tmp} (hg : o.guard = some (j, want)) (hd : (ops[j]?).bind (·.dst) = some t) (hv : tmps[t]?.getD undef = .bool b) : Region.wanted o (yielded ops tmps) = (b == want) := by
  have h1 : tmps[t]? = some (.bool b) := by
    cases h : tmps[t]? with
    | none => rw [h] at hv; cases hv
    | some v => rw [h] at hv; exact congrArg some hv
  unfold Region.wanted
  rw [hg]
  unfold yielded
  simp only [hd, Option.bind_some, h1]
  cases b <;> cases want <;> rfl
theorem wanted_none {y : Nat → Option Bool} {o : Oper} (hg : o.guard = none) : Region.wanted o y = true := by unfold Region.wanted; rw [hg]
/-- what has come up waited for what it waits for -/
def Closed (ops : Array Oper) (listed : Array Bool) : Prop := ∀ (i : Nat) (o : Oper), ops[i]? = some o → listed.getD i false = true → ∀ e ∈ o.after, Region.binds .any e = true → listed.getD e.on false = true
/-- a slot that only one operation writes, which has not come up yet -/
theorem RI.keptN {V : Nat → Value → Prop} {C : Array Bool → World → Prop} {a0 a : Act} {listed : Array Bool} {w : World} (h : RI ops V C a0 listed a w) (t : Tmp) (j : Nat) (ht : ((List.range ops.size).all fun i => decide (i = j) || (match ops[i]? with | none => true | some q => q.dst != some t)) = true) (hl : listed.getD j false = false) :
    a.tmps[t]?.getD undef = a0.tmps.getD t undef := by
  rw [← Array.getD_eq_getD_getElem?]
  refine h.old t (fun i o hi ho => ?_)
  have hlt : i < ops.size := (Array.getElem?_eq_some_iff.1 hi).1
  have h1 := List.all_eq_true.1 ht i (List.mem_range.2 hlt)
  simp only [hi, ho, Bool.or_eq_true, decide_eq_true_eq] at h1
  rcases h1 with rfl | h1
  · exact hl
  · simp at h1
theorem Closed.not {listed : Array Bool} (h : Closed ops listed) {i j : Nat} {o : Oper} (ho : ops[j]? = some o) {e : Edge} (he : e ∈ o.after) (hb : Region.binds .any e = true) (hi : e.on = i) (hn : listed.getD i false = false) : listed.getD j false = false := by
  cases hl : listed.getD j false with
  | false => rfl
  | true => have := h j o ho hl e he hb; rw [hi, hn] at this; cases this
/-- A region that draws its order, with operations that are left out: what each one leaves, whenever it comes up. -/
theorem wp_region_inv3 {id : Nat} {a0 : Act} {w : World} (V : Nat → Value → Prop) (C : Array Bool → World → Prop) (hm : P.follows .mixedOrders = true) (hp : slotOps ops a0.tmps.size = true)
    (hstart : C (Array.replicate ops.size false) { w with drawn := w.drawn + 1 })
    (hop : ∀ (i : Nat) (o : Oper), ops[i]? = some o → ∀ listed a w, RI ops V C a0 listed a w → listed.getD i false = false → Closed ops listed → (∀ e ∈ o.after, Region.binds .any e = true → listed.getD e.on false = true) →
      (Region.wanted o (yielded ops a.tmps) = true ∧ o.wp P a w (fun a' w' => ∃ v, a' = a.put o.dst v ∧ V i v ∧ C (listed.setIfInBounds i true) w') Q) ∨ (Region.wanted o (yielded ops a.tmps) = false ∧ V i undef ∧ C (listed.setIfInBounds i true) w))
    (hend : ∀ listed a w, RI ops V C a0 listed a w → (∀ (i : Nat), i < ops.size → listed.getD i false = true) → Q .normal a w) : (Code.region id ops true).wp P Q a0 w := by
  refine wp_region_any hm (wpAny_inv (fun listed a w => RI ops V C a0 listed a w ∧ Closed ops listed) ?_ ?_ _ _ _ _ ⟨⟨hstart, by simp, rfl, rfl, fun _ _ => rfl, ?_⟩, ?_⟩ ?_)
  · rintro listed a w i ⟨hI, hcl⟩ hr
    obtain ⟨hnot, o, hi, hall⟩ := mem_ready.1 hr
    have hlt : i < ops.size := (Array.getElem?_eq_some_iff.1 hi).1
    have hnot' : listed.getD i false = false := by
      have : i < listed.size := by rw [hI.len]; exact hlt
      rw [Array.getD_eq_getD_getElem?] at hnot ⊢
      rw [Array.getElem?_eq_getElem this] at hnot ⊢
      exact hnot
    have hil : i < listed.size := by rw [hI.len]; exact hlt
    have hcl' : Closed ops (listed.setIfInBounds i true) := by
      intro j q hj hl e he hb
      rw [getD_set hil] at hl ⊢
      split
      · rfl
      · split at hl
        · rename_i hij; subst hij
          obtain rfl : o = q := Option.some.inj (hi.symm.trans hj)
          exact hall e he hb
        · exact hcl j q hj hl e he hb
    unfold wpOp
    rw [hi]
    rcases hop i o hi listed a w hI hnot' hcl hall with ⟨hw, h'⟩ | ⟨hw, hv, hc⟩
    · simp only [hw, if_true]
      refine .inl (Oper.wp_mono (fun a' w' h' => ?_) h')
      obtain ⟨v, rfl, hv, hc⟩ := h'
      exact ⟨hI.put3 hp hi hv hc, hcl'⟩
    · simp only [hw, Bool.false_eq_true, if_false]
      exact ⟨hI.put3 hp hi hv hc, hcl'⟩
  · rintro listed a w ⟨hI, -⟩ hnil
    refine hend listed a w hI ?_
    intro i
    induction i using Nat.strongRecOn with
    | ind i ih =>
      intro hlt
      cases hl : listed.getD i false with
      | true => rfl
      | false =>
        exfalso
        have ho : ops[i]? = some ops[i] := Array.getElem?_eq_getElem hlt
        have hmem : i ∈ Region.ready .any ops listed := by
          refine mem_ready.2 ⟨?_, ops[i], ho, fun e he _ => ?_⟩
          · have : i < listed.size := by rw [hI.len]; exact hlt
            rw [Array.getD_eq_getD_getElem?] at hl ⊢
            rw [Array.getElem?_eq_getElem this] at hl ⊢
            exact hl
          · have := (slotOps_at hp ho).1 e he
            exact ih e.on this (by omega)
        rw [hnil] at hmem
        cases hmem
  · intro i o t hi _ hl
    have hlt : i < ops.size := (Array.getElem?_eq_some_iff.1 hi).1
    rw [Array.getD_eq_getD_getElem?, Array.getElem?_replicate, if_pos hlt] at hl
    cases hl
  · intro i o hi hl
    have hlt : i < ops.size := (Array.getElem?_eq_some_iff.1 hi).1
    rw [Array.getD_eq_getD_getElem?, Array.getElem?_replicate, if_pos hlt] at hl
    cases hl
  · unfold left
    rw [Array.toList_replicate, List.count_replicate]
    simp
end
/-- the slots, written out -/
theorem arr_lit {a : Array Value} {n : Nat} (h : a.size = n) : a = ((List.range n).map fun i => a[i]?.getD undef).toArray := by
  apply Array.ext
  · simp [h]
  · intro i h1 h2
    simp [Array.getElem?_eq_getElem h1]
end Go.Proofs.Ytpmjikchlofebaa
