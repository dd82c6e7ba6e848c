/- As XInv4's law on regions, where the class of worlds may look at the slots, too; lists of the call's own that are made in one region. No statement is proved here. -/
import Derived.Test.YtknabmknboffgaaGreatDoorInv4
import Derived.Test.YtknabmknboffgaaGreatDoorStC
namespace Go.Proofs.YtknabmknboffgaaGreatDoor
open Go Go.RowKit
section
variable {P : Program} {ops : Array Oper} {md : Region.Mode} {Q : Exit → Act → World → Prop}
/-- A region that draws its order; what has come up may speak of the world, and stays true along R. -/
theorem wp_region_inv7 {id : Nat} {a0 : Act} {w : World} (V : Nat → World → Value → Prop) (C : Array Bool → Act → World → Prop) (R : World → World → Prop) (hmono : ∀ i w w' v, R w w' → V i w v → V i w' v) (hm : P.follows .mixedOrders = true) (hp : slotOps ops a0.tmps.size = true)
    (hstart : C (Array.replicate ops.size false) a0 { w with drawn := w.drawn + 1 })
    (hop : ∀ (i : Nat) (o : Oper), ops[i]? = some o → ∀ listed a w, RJ ops V (fun _ _ => True) a0 listed a w → C listed a w → listed.getD i false = false → Closed ops listed → (∀ e ∈ o.after, Region.binds .any e = true → listed.getD e.on false = true) →
      (Region.wanted o (yielded ops a.tmps) = true ∧ o.wp P a w (fun a' w' => ∃ v, a' = a.put o.dst v ∧ R w w' ∧ V i w' v ∧ C (listed.setIfInBounds i true) (a.put o.dst v) w') Q) ∨ (Region.wanted o (yielded ops a.tmps) = false ∧ V i w undef ∧ C (listed.setIfInBounds i true) (a.put o.dst undef) w))
    (hend : ∀ listed a w, RJ ops V (fun _ _ => True) a0 listed a w → C listed a w → (∀ (i : Nat), i < ops.size → listed.getD i false = true) → Q .normal a w) : (Code.region id ops true).wp P Q a0 w := by
  refine wp_region_any hm (wpAny_inv (fun listed a w => RJ ops V (fun _ _ => True) a0 listed a w ∧ C listed a w ∧ Closed ops listed) ?_ ?_ _ _ _ _ ⟨⟨trivial, by simp, rfl, rfl, fun _ _ => rfl, ?_⟩, hstart, ?_⟩ ?_)
  · rintro listed a w i ⟨hI, hC, hcl⟩ hr
    obtain ⟨hnot, o, hi, hall⟩ := mem_ready.1 hr
    have hlt : i < ops.size := (Array.getElem?_eq_some_iff.1 hi).1
    have hnot' : listed.getD i false = false := by
      have : i < listed.size := by rw [hI.len]; exact hlt
      rw [Array.getD_eq_getD_getElem?] at hnot ⊢
      rw [Array.getElem?_eq_getElem this] at hnot ⊢
      exact hnot
    have hil : i < listed.size := by rw [hI.len]; exact hlt
    have hcl' : Closed ops (listed.setIfInBounds i true) := by
      intro j q hj hl e he hb
      rw [getD_set hil] at hl ⊢
      split
      · rfl
      · split at hl
        · rename_i hij; subst hij
          obtain rfl : o = q := Option.some.inj (hi.symm.trans hj)
          exact hall e he hb
        · exact hcl j q hj hl e he hb
    unfold wpOp
    rw [hi]
    rcases hop i o hi listed a w hI hC hnot' hcl hall with ⟨hw, h'⟩ | ⟨hw, hv, hc⟩
    · simp only [hw, if_true]
      refine .inl (Oper.wp_mono (fun a' w' h' => ?_) h')
      obtain ⟨v, rfl, hR, hv, hc⟩ := h'
      exact ⟨hI.put hp (fun i v => hmono i _ _ v hR) hi hv trivial, hc, hcl'⟩
    · simp only [hw, Bool.false_eq_true, if_false]
      exact ⟨hI.put hp (fun _ _ h => h) hi hv trivial, hc, hcl'⟩
  · rintro listed a w ⟨hI, hC, -⟩ hnil
    refine hend listed a w hI hC ?_
    intro i
    induction i using Nat.strongRecOn with
    | ind i ih =>
      intro hlt
      cases hl : listed.getD i false with
      | true => rfl
      | false =>
        exfalso
        have ho : ops[i]? = some ops[i] := Array.getElem?_eq_getElem hlt
        have hmem : i ∈ Region.ready .any ops listed := by
          refine mem_ready.2 ⟨?_, ops[i], ho, fun e he _ => ?_⟩
          · have : i < listed.size := by rw [hI.len]; exact hlt
            rw [Array.getD_eq_getD_getElem?] at hl ⊢
            rw [Array.getElem?_eq_getElem this] at hl ⊢
            exact hl
          · have := (slotOps_at hp ho).1 e he
            exact ih e.on this (by omega)
        rw [hnil] at hmem
        cases hmem
  · intro i o t hi _ hl
    have hlt : i < ops.size := (Array.getElem?_eq_some_iff.1 hi).1
    rw [Array.getD_eq_getD_getElem?, Array.getElem?_replicate, if_pos hlt] at hl
    cases hl
  · intro i o hi hl
    have hlt : i < ops.size := (Array.getElem?_eq_some_iff.1 hi).1
    rw [Array.getD_eq_getD_getElem?, Array.getElem?_replicate, if_pos hlt] at hl
    cases hl
  · unfold left
    rw [Array.toList_replicate, List.count_replicate]
    simp
end

/-- the blocks of the slices in these slots are apart, and lie in the heap -/
def AP (ss : List Nat) (a : Act) (w : World) : Prop :=
  (∀ i, i ∈ ss → ∀ g o n c, a.tmps.getD i undef = .slice (some ⟨g, o, none⟩) n c → g < w.heap.size) ∧
  ∀ i, i ∈ ss → ∀ j, j ∈ ss → i ≠ j → ∀ g o n c g' o' n' c', a.tmps.getD i undef = .slice (some ⟨g, o, none⟩) n c → a.tmps.getD j undef = .slice (some ⟨g', o', none⟩) n' c' → g ≠ g'
theorem AP.grow {ss : List Nat} {a : Act} {w w' : World} (h : AP ss a w) (hs : w.heap.size ≤ w'.heap.size) : AP ss a w' :=
  ⟨fun i hi g o n c e => Nat.lt_of_lt_of_le (h.1 i hi g o n c e) hs, h.2⟩
theorem put_getD (a : Act) (k i : Nat) (v : Value) (h : i ≠ k) : (a.put (some k) v).tmps.getD i undef = a.tmps.getD i undef := by
  unfold Act.put
  simp only [Array.getD_eq_getD_getElem?]
  rw [Array.getElem?_setIfInBounds, if_neg (fun e => h e.symm)]
theorem AP.other {ss : List Nat} {a : Act} {w : World} {k : Nat} (h : AP ss a w) (hk : k ∉ ss) (v : Value) : AP ss (a.put (some k) v) w := by
  have e : ∀ i, i ∈ ss → (a.put (some k) v).tmps.getD i undef = a.tmps.getD i undef := fun i hi => put_getD a k i v (fun e => hk (e ▸ hi))
  refine ⟨fun i hi g o n c => ?_, fun i hi j hj hij g o n c g' o' n' c' => ?_⟩
  · rw [e i hi]; exact h.1 i hi g o n c
  · rw [e i hi, e j hj]; exact h.2 i hi j hj hij g o n c g' o' n' c'
theorem AP.skip {ss : List Nat} {a : Act} {w : World} (h : AP ss a w) (v : Value) : AP ss (a.put Option.none v) w := h
theorem AP.new {ss : List Nat} {a : Act} {w w' : World} {k g o n c : Nat} (h : AP ss a w) (hs : w.heap.size ≤ w'.heap.size) (hg : w.heap.size ≤ g) (hg' : g < w'.heap.size) : AP ss (a.put (some k) (.slice (some ⟨g, o, none⟩) n c)) w' := by
  have e : ∀ i, i ≠ k → (a.put (some k) (.slice (some ⟨g, o, Option.none⟩) n c)).tmps.getD i undef = a.tmps.getD i undef := fun i hi => put_getD a k i _ hi
  have e2 : ∀ g2 o2 n2 c2, (a.put (some k) (.slice (some ⟨g, o, Option.none⟩) n c)).tmps.getD k undef = .slice (some ⟨g2, o2, Option.none⟩) n2 c2 → g2 = g := by
    intro g2 o2 n2 c2 he
    unfold Act.put at he
    simp only [Array.getD_eq_getD_getElem?] at he
    rw [Array.getElem?_setIfInBounds, if_pos rfl] at he
    split at he
    · simp only [Option.getD_some, Value.slice.injEq, Option.some.injEq, Addr.mk.injEq] at he
      exact he.1.1.symm
    · cases he
  refine ⟨fun i hi g2 o2 n2 c2 he => ?_, fun i hi j hj hij g2 o2 n2 c2 g3 o3 n3 c3 he he3 => ?_⟩
  · by_cases hik : i = k
    · subst hik; rw [e2 g2 o2 n2 c2 he]; exact hg'
    · rw [e i hik] at he; exact Nat.lt_of_lt_of_le (h.1 i hi g2 o2 n2 c2 he) hs
  · by_cases hik : i = k
    · subst hik
      have hjk : j ≠ i := fun x => hij x.symm
      rw [e2 g2 o2 n2 c2 he]
      rw [e j hjk] at he3
      have := h.1 j hj g3 o3 n3 c3 he3
      omega
    · rw [e i hik] at he
      by_cases hjk : j = k
      · subst hjk
        rw [e2 g3 o3 n3 c3 he3]
        have := h.1 i hi g2 o2 n2 c2 he
        omega
      · rw [e j hjk] at he3
        exact h.2 i hi j hj hij g2 o2 n2 c2 g3 o3 n3 c3 he he3
theorem AP.start {ss : List Nat} {a : Act} {w : World} (h : ss.all (fun i => (match a.tmps.getD i undef with | .slice _ _ _ => false | _ => true)) = true) : AP ss a w := by
  have h' := List.all_eq_true.1 h
  have k : ∀ i, i ∈ ss → ∀ g o n c, a.tmps.getD i undef = .slice (some ⟨g, o, Option.none⟩) n c → False := by
    intro i hi g o n c e
    have := h' i hi
    rw [e] at this
    cases this
  exact ⟨fun i hi g o n c e => (k i hi g o n c e).elim, fun i hi j hj hij g o n c g' o' n' c' e e' => (k i hi g o n c e).elim⟩
theorem OwnO.turnB {w w' : World} {RB B0 b : Nat} {A : Option Addr} {xs : List Nat} (h : OwnO w B0 A b xs) (ht : Turn w w' (fun b => b = RB)) (hb : RB < B0) : OwnO w' B0 A b xs := by
  rcases h with h | ⟨h1, h2, h3⟩
  · exact .inl h
  · exact .inr ⟨h1, h2, h3.turn ht (by intro e; omega)⟩
theorem Fl.turnB {w w' : World} {RB : Nat} {A : Option Addr} {xs : List Nat} (h : Fl w A xs) (ht : Turn w w' (fun b => b = RB)) (hb : ∀ b o, A = some ⟨b, o, Option.none⟩ → b ≠ RB) : Fl w' A xs := by
  rcases h with h | ⟨b, o, e, h1, h2⟩
  · exact .inl h
  · exact .inr ⟨b, o, e, Nat.lt_of_lt_of_le h1 ht.1, fun k hk => by rw [ht.2.1 ⟨b, o + k, Option.none⟩ h1 (hb b o e)]; exact h2 k hk⟩
end Go.Proofs.YtknabmknboffgaaGreatDoor
