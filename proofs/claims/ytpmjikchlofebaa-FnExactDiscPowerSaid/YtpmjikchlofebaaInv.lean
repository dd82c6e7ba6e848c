/- Regions that draw their order, walked by what each operation leaves, whatever the order. No statement is proved here. -/
import Derived.Test.YtpmjikchlofebaaFloat
import Derived.Orders
import Derived.Calls
namespace Go.Proofs.Ytpmjikchlofebaa
open Go Go.RowKit
section
variable {P : Program} {ops : Array Oper} {md : Region.Mode} {Q : Exit → Act → World → Prop}
theorem count_set : ∀ (l : List Bool) (i : Nat), l[i]? = some false → (l.set i true).count false + 1 = l.count false
  | [], i, h => by simp at h
  | b :: l, 0, h => by simp at h; subst h; simp
  | b :: l, i + 1, h => by
    simp only [List.getElem?_cons_succ] at h
    have := count_set l i h
    simp only [List.set_cons_succ, List.count_cons]
    omega
/-- how many have not come up -/
def left (listed : Array Bool) : Nat := listed.toList.count false
theorem left_set {listed : Array Bool} {i : Nat} (h : listed.getD i true = false) : left (listed.setIfInBounds i true) + 1 = left listed := by
  unfold left
  rw [Array.toList_setIfInBounds]
  refine count_set _ _ ?_
  rw [Array.getElem?_toList]
  rw [Array.getD_eq_getD_getElem?] at h
  cases hx : listed[i]? with
  | none => rw [hx] at h; simp at h
  | some b => rw [hx] at h; simp at h; rw [h]
/-- An invariant of the operations, in whatever order they come up. -/
theorem wpAny_inv (I : Array Bool → Act → World → Prop)
    (hstep : ∀ listed a w i, I listed a w → i ∈ Region.ready md ops listed → wpOp P ops Q i (I (listed.setIfInBounds i true)) a w)
    (hdone : ∀ listed a w, I listed a w → Region.ready md ops listed = [] → Q .normal a w) :
    ∀ (fuel : Nat) (listed : Array Bool) (a : Act) (w : World), I listed a w → left listed ≤ fuel → wpAny P md ops Q fuel listed a w
  | 0, listed, a, w, hI, hf => by
    have hnil : Region.ready md ops listed = [] := by
      apply List.eq_nil_iff_forall_not_mem.2
      intro i hi
      have := left_set (mem_ready.1 hi).1
      omega
    exact ⟨hnil, hdone _ _ _ hI hnil⟩
  | fuel + 1, listed, a, w, hI, hf => by
    refine ⟨fun hnil => hdone _ _ _ hI hnil, fun i hi => ?_⟩
    refine wpOp_mono (fun a' w' h' => wpAny_inv I hstep hdone fuel _ a' w' h' ?_) (hstep listed a w i hI hi)
    have := left_set (mem_ready.1 hi).1
    omega
/-- what holds on the way: the class of the world, and of each operation that has come up what it has left -/
structure RI (ops : Array Oper) (V : Nat → Value → Prop) (C : Array Bool → World → Prop) (a0 : Act) (listed : Array Bool) (a : Act) (w : World) : Prop where
  cls : C listed w
  len : listed.size = ops.size
  defers : a.defers = a0.defers
  size : a.tmps.size = a0.tmps.size
  old : ∀ t, (∀ (i : Nat) (o : Oper), ops[i]? = some o → o.dst = some t → listed.getD i false = false) → a.tmps.getD t undef = a0.tmps.getD t undef
  new : ∀ (i : Nat) (o : Oper) t, ops[i]? = some o → o.dst = some t → listed.getD i false = true → V i (a.tmps.getD t undef)
/-- each operation has a slot of its own, none is guarded, each waits for earlier ones only -/
def plainOps (ops : Array Oper) (n : Nat) : Bool :=
  (List.range ops.size).all fun i => match ops[i]? with
    | none => false
    | some o => o.guard.isNone && (o.after.all fun e => decide (e.on < i)) &&
      (match o.dst with
       | none => true
       | some t => decide (t < n) && ((List.range ops.size).all fun j => decide (j = i) || (match ops[j]? with | none => true | some q => q.dst != some t)))
theorem plainOps_at {n : Nat} (h : plainOps ops n = true) {i : Nat} {o : Oper} (hi : ops[i]? = some o) :
    o.guard = none ∧ (∀ e ∈ o.after, e.on < i) ∧ ∀ t, o.dst = some t → t < n ∧ ∀ (j : Nat) (q : Oper), ops[j]? = some q → q.dst = some t → j = i := by
  have hlt : i < ops.size := (Array.getElem?_eq_some_iff.1 hi).1
  have h1 := List.all_eq_true.1 h i (List.mem_range.2 hlt)
  simp only [hi, Bool.and_eq_true] at h1
  obtain ⟨⟨hg, ha⟩, hd⟩ := h1
  refine ⟨Option.isNone_iff_eq_none.1 hg, fun e he => ?_, fun t ht => ?_⟩
  · obtain ⟨k, hk, rfl⟩ := Array.mem_iff_getElem.1 he
    exact of_decide_eq_true (Array.all_eq_true.1 ha k hk)
  · rw [ht] at hd
    simp only [Bool.and_eq_true] at hd
    refine ⟨of_decide_eq_true hd.1, fun j q hj hq => ?_⟩
    have hjl : j < ops.size := (Array.getElem?_eq_some_iff.1 hj).1
    have h2 := List.all_eq_true.1 hd.2 j (List.mem_range.2 hjl)
    simp only [hj, hq, Bool.or_eq_true, decide_eq_true_eq] at h2
    rcases h2 with h2 | h2
    · exact h2
    · simp at h2
theorem getD_set {listed : Array Bool} {i j : Nat} (_hi : i < listed.size) : (listed.setIfInBounds i true).getD j false = if i = j then true else listed.getD j false := by
  rw [Array.getD_eq_getD_getElem?, Array.getD_eq_getD_getElem?, Array.getElem?_setIfInBounds]
  split
  · rename_i h; subst h; simp
  · rfl
theorem getD_put {tmps : Array Value} {t u : Nat} {v : Value} (_h : t < tmps.size) : (tmps.setIfInBounds t v).getD u undef = if t = u then v else tmps.getD u undef := by
  rw [Array.getD_eq_getD_getElem?, Array.getD_eq_getD_getElem?, Array.getElem?_setIfInBounds]
  split
  · rename_i h'; subst h'; simp
  · rfl
theorem RI.put {V : Nat → Value → Prop} {C : Array Bool → World → Prop} {a0 a : Act} {listed : Array Bool} {w w' : World} (hp : plainOps ops a0.tmps.size = true) (h : RI ops V C a0 listed a w) {i : Nat} {o : Oper} (hi : ops[i]? = some o)
    {v : Value} (hv : V i v) (hc : C (listed.setIfInBounds i true) w') : RI ops V C a0 (listed.setIfInBounds i true) (a.put o.dst v) w' := by
  have hlt : i < ops.size := (Array.getElem?_eq_some_iff.1 hi).1
  have hil : i < listed.size := by rw [h.len]; exact hlt
  obtain ⟨-, -, hd⟩ := plainOps_at hp hi
  refine ⟨hc, by rw [Array.size_setIfInBounds]; exact h.len, ?_, ?_, ?_, ?_⟩
  · unfold Act.put; split <;> exact h.defers
  · unfold Act.put; split
    · rw [Array.size_setIfInBounds]; exact h.size
    · exact h.size
  · intro t ht
    have hne : o.dst ≠ some t := by
      intro he
      have := ht i o hi he
      rw [getD_set hil, if_pos rfl] at this
      cases this
    have hold := h.old t (fun j q hj hq => by
      have := ht j q hj hq
      rw [getD_set hil] at this
      split at this
      · cases this
      · exact this)
    unfold Act.put
    cases ho : o.dst with
    | none => exact hold
    | some u =>
      have hut : u ≠ t := fun e => hne (by rw [ho, e])
      show (a.tmps.setIfInBounds u v).getD t undef = _
      rw [getD_put (by rw [h.size]; exact (hd u ho).1), if_neg hut]
      exact hold
  · intro j q t hj hq hl
    rw [getD_set hil] at hl
    by_cases e : i = j
    · subst e
      obtain rfl : o = q := Option.some.inj (hi.symm.trans hj)
      unfold Act.put
      rw [hq]
      show V i ((a.tmps.setIfInBounds t v).getD t undef)
      rw [getD_put (by rw [h.size]; exact (hd t hq).1), if_pos rfl]
      exact hv
    · rw [if_neg e] at hl
      have hold := h.new j q t hj hq hl
      unfold Act.put
      cases ho : o.dst with
      | none => exact hold
      | some u =>
        have hut : u ≠ t := fun e' => e ((hd u ho).2 j q hj (by rw [hq, e'])).symm
        show V j ((a.tmps.setIfInBounds u v).getD t undef)
        rw [getD_put (by rw [h.size]; exact (hd u ho).1), if_neg hut]
        exact hold
/-- a slot that no operation writes -/
theorem RI.keep {V : Nat → Value → Prop} {C : Array Bool → World → Prop} {a0 a : Act} {listed : Array Bool} {w : World} (h : RI ops V C a0 listed a w) (t : Tmp) (ht : ops.all (fun o => o.dst != some t) = true) :
    a.eval (.tmp t) = a0.tmps.getD t undef := by
  refine h.old t (fun i o hi ho => ?_)
  have hlt : i < ops.size := (Array.getElem?_eq_some_iff.1 hi).1
  have h1 := Array.all_eq_true.1 ht i hlt
  have h2 : ops[i] = o := (Array.getElem?_eq_some_iff.1 hi).2
  rw [h2, ho] at h1
  simp at h1
/-- what an operation that has come up has left -/
theorem RI.slot {V : Nat → Value → Prop} {C : Array Bool → World → Prop} {a0 a : Act} {listed : Array Bool} {w : World} (h : RI ops V C a0 listed a w) (i : Nat) (t : Tmp) (hi : (ops[i]?).bind (·.dst) = some t) (hl : listed.getD i false = true) :
    V i (a.eval (.tmp t)) := by
  cases ho : ops[i]? with
  | none => rw [ho] at hi; cases hi
  | some o => rw [ho] at hi; exact h.new i o t ho hi hl
theorem RI.kept {V : Nat → Value → Prop} {C : Array Bool → World → Prop} {a0 a : Act} {listed : Array Bool} {w : World} (h : RI ops V C a0 listed a w) (t : Tmp) (ht : ops.all (fun o => o.dst != some t) = true) :
    a.tmps[t]?.getD undef = a0.tmps.getD t undef := by rw [← Array.getD_eq_getD_getElem?]; exact h.keep t ht
theorem RI.has {V : Nat → Value → Prop} {C : Array Bool → World → Prop} {a0 a : Act} {listed : Array Bool} {w : World} (h : RI ops V C a0 listed a w) (i : Nat) (t : Tmp) (hi : (ops[i]?).bind (·.dst) = some t) (hl : listed.getD i false = true) :
    V i (a.tmps[t]?.getD undef) := by rw [← Array.getD_eq_getD_getElem?]; exact h.slot i t hi hl
/-- A region that draws its order: what each operation leaves, whenever it comes up. -/
theorem wp_region_inv {id : Nat} {a0 : Act} {w : World} (V : Nat → Value → Prop) (C : Array Bool → World → Prop) (hm : P.follows .mixedOrders = true) (hp : plainOps ops a0.tmps.size = true)
    (hstart : C (Array.replicate ops.size false) { w with drawn := w.drawn + 1 })
    (hop : ∀ (i : Nat) (o : Oper), ops[i]? = some o → ∀ listed a w, RI ops V C a0 listed a w → (∀ e ∈ o.after, Region.binds .any e = true → listed.getD e.on false = true) →
      o.wp P a w (fun a' w' => ∃ v, a' = a.put o.dst v ∧ V i v ∧ C (listed.setIfInBounds i true) w') Q)
    (hend : ∀ listed a w, RI ops V C a0 listed a w → (∀ (i : Nat), i < ops.size → listed.getD i false = true) → Q .normal a w) : (Code.region id ops true).wp P Q a0 w := by
  refine wp_region_any hm (wpAny_inv (RI ops V C a0) ?_ ?_ _ _ _ _ ⟨hstart, by simp, rfl, rfl, fun _ _ => rfl, ?_⟩ ?_)
  · intro listed a w i hI hr
    obtain ⟨-, o, hi, hall⟩ := mem_ready.1 hr
    unfold wpOp
    rw [hi]
    have hw : Region.wanted o (yielded ops a.tmps) = true := by unfold Region.wanted; rw [(plainOps_at hp hi).1]
    simp only [hw, if_true]
    refine .inl (Oper.wp_mono (fun a' w' h' => ?_) (hop i o hi listed a w hI hall))
    obtain ⟨v, rfl, hv, hc⟩ := h'
    exact hI.put hp hi hv hc
  · intro listed a w hI hnil
    refine hend listed a w hI ?_
    intro i
    induction i using Nat.strongRecOn with
    | ind i ih =>
      intro hlt
      cases hl : listed.getD i false with
      | true => rfl
      | false =>
        exfalso
        have ho : ops[i]? = some ops[i] := Array.getElem?_eq_getElem hlt
        have hmem : i ∈ Region.ready .any ops listed := by
          refine mem_ready.2 ⟨?_, ops[i], ho, fun e he _ => ?_⟩
          · have : i < listed.size := by rw [hI.len]; exact hlt
            rw [Array.getD_eq_getD_getElem?] at hl ⊢
            rw [Array.getElem?_eq_getElem this] at hl ⊢
            exact hl
          · have := (plainOps_at hp ho).2.1 e he
            exact ih e.on this (by omega)
        rw [hnil] at hmem
        cases hmem
  · intro i o t hi _ hl
    have hlt : i < ops.size := (Array.getElem?_eq_some_iff.1 hi).1
    rw [Array.getD_eq_getD_getElem?, Array.getElem?_replicate, if_pos hlt] at hl
    cases hl
  · unfold left
    rw [Array.toList_replicate, List.count_replicate]
    simp
end
end Go.Proofs.Ytpmjikchlofebaa
