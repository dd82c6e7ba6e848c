/- Drawn regions that make a profile and store it into a block of their own. No statement is proved here. -/
import Derived.Test.YtiiiigldpbomkaaPim
import Derived.Test.YtiiiigldpbomkaaInv5
namespace Go.Proofs.Ytiiiigldpbomkaa
open Go Go.RowKit
section
variable {P : Program} {ops : Array Oper} {md : Region.Mode} {Q : Exit → Act → World → Prop}
theorem wp_region_inv7B {id : Nat} {a0 : Act} {w : World} (V : Nat → World → Value → Prop) (C : Array Bool → Act → World → Prop) (R : World → World → Prop) (hmono : ∀ i w w' v, R w w' → V i w v → V i w' v) (hm : P.follows .mixedOrders = true) (hp : slotOpsB ops a0.tmps.size = true)
    (hstart : C (Array.replicate ops.size false) a0 { w with drawn := w.drawn + 1 })
    (hop : ∀ (i : Nat) (o : Oper), ops[i]? = some o → ∀ listed a w, RJ ops V (fun _ _ => True) a0 listed a w → C listed a w → listed.getD i false = false → Closed ops listed → (∀ e ∈ o.after, Region.binds .any e = true → listed.getD e.on false = true) →
      (Region.wanted o (yielded ops a.tmps) = true ∧ o.wp P a w (fun a' w' => ∃ v, a' = a.put o.dst v ∧ R w w' ∧ V i w' v ∧ C (listed.setIfInBounds i true) (a.put o.dst v) w') Q) ∨ (Region.wanted o (yielded ops a.tmps) = false ∧ V i w undef ∧ C (listed.setIfInBounds i true) (a.put o.dst undef) w))
    (hend : ∀ listed a w, RJ ops V (fun _ _ => True) a0 listed a w → C listed a w → (∀ (i : Nat), i < ops.size → listed.getD i false = true) → Q .normal a w) : (Code.region id ops true).wp P Q a0 w := by
  refine wp_region_any hm (wpAny_inv (fun listed a w => RJ ops V (fun _ _ => True) a0 listed a w ∧ C listed a w ∧ Closed ops listed) ?_ ?_ _ _ _ _ ⟨⟨trivial, by simp, rfl, rfl, fun _ _ => rfl, ?_⟩, hstart, ?_⟩ ?_)
  · rintro listed a w i ⟨hI, hC, hcl⟩ hr
    obtain ⟨hnot, o, hi, hall⟩ := mem_ready.1 hr
    have hlt : i < ops.size := (Array.getElem?_eq_some_iff.1 hi).1
    have hnot' : listed.getD i false = false := by
      have : i < listed.size := by rw [hI.len]; exact hlt
      rw [Array.getD_eq_getD_getElem?] at hnot ⊢
      rw [Array.getElem?_eq_getElem this] at hnot ⊢
      exact hnot
    have hil : i < listed.size := by rw [hI.len]; exact hlt
    have hcl' : Closed ops (listed.setIfInBounds i true) := by
      intro j q hj hl e he hb
      rw [getD_set hil] at hl ⊢
      split
      · rfl
      · split at hl
        · rename_i hij; subst hij
          obtain rfl : o = q := Option.some.inj (hi.symm.trans hj)
          exact hall e he hb
        · exact hcl j q hj hl e he hb
    unfold wpOp
    rw [hi]
    rcases hop i o hi listed a w hI hC hnot' hcl hall with ⟨hw, h'⟩ | ⟨hw, hv, hc⟩
    · simp only [hw, if_true]
      refine .inl (Oper.wp_mono (fun a' w' h' => ?_) h')
      obtain ⟨v, rfl, hR, hv, hc⟩ := h'
      exact ⟨hI.putB hp (fun i v => hmono i _ _ v hR) hi hv trivial, hc, hcl'⟩
    · simp only [hw, Bool.false_eq_true, if_false]
      exact ⟨hI.putB hp (fun _ _ h => h) hi hv trivial, hc, hcl'⟩
  · rintro listed a w ⟨hI, hC, -⟩ hnil
    refine hend listed a w hI hC ?_
    intro i
    induction i using Nat.strongRecOn with
    | ind i ih =>
      intro hlt
      cases hl : listed.getD i false with
      | true => rfl
      | false =>
        exfalso
        have ho : ops[i]? = some ops[i] := Array.getElem?_eq_getElem hlt
        have hmem : i ∈ Region.ready .any ops listed := by
          refine mem_ready.2 ⟨?_, ops[i], ho, fun e he hbb => ?_⟩
          · have : i < listed.size := by rw [hI.len]; exact hlt
            rw [Array.getD_eq_getD_getElem?] at hl ⊢
            rw [Array.getElem?_eq_getElem this] at hl ⊢
            exact hl
          · have := (slotOpsB_at hp ho).1 e he hbb
            exact ih e.on this (by omega)
        rw [hnil] at hmem
        cases hmem
  · intro i o t hi _ hl
    have hlt : i < ops.size := (Array.getElem?_eq_some_iff.1 hi).1
    rw [Array.getD_eq_getD_getElem?, Array.getElem?_replicate, if_pos hlt] at hl
    cases hl
  · intro i o hi hl
    have hlt : i < ops.size := (Array.getElem?_eq_some_iff.1 hi).1
    rw [Array.getD_eq_getD_getElem?, Array.getElem?_replicate, if_pos hlt] at hl
    cases hl
  · unfold left
    rw [Array.toList_replicate, List.count_replicate]
    simp
end
/-- lists of the call's own stay as they are -/
def KO (wa wb : World) : Prop := wa.heap.size ≤ wb.heap.size ∧ ∀ g xs, xs ≠ [] → Own wa g xs → Own wb g xs
theorem KO.of_below {wa wb : World} (h : Below wa.heap.size wa wb) : KO wa wb := ⟨h.size, fun _ _ _ ho => ho.below h⟩
theorem OwnO.ko {wa wb : World} {B0 b : Nat} {A : Option Addr} {xs : List Nat} (h : OwnO wa B0 A b xs) (k : KO wa wb) : OwnO wb B0 A b xs := by
  rcases h with h | ⟨h1, h2, h3⟩
  · exact .inl h
  · by_cases hx : xs = []
    · exact .inl hx
    · exact .inr ⟨h1, h2, k.2 _ _ hx h3⟩
theorem OwnQ.ko {wa wb : World} {B0 b1 b2 b3 : Nat} {A L D : Option Addr} {a l d : List Nat} (h : OwnQ wa B0 A L D b1 b2 b3 a l d) (k : KO wa wb) : OwnQ wb B0 A L D b1 b2 b3 a l d :=
  ⟨h.1.ko k, h.2.1.ko k, h.2.2.1.ko k, h.2.2.2⟩
theorem KO.store3 {w : World} {B : Nat} {p0 p1 p2 : Option Addr} {n0 n1 n2 c0 c1 c2 : Nat} (h : BlkL w B [.slice p0 n0 c0, .slice p1 n1 c1, .slice p2 n2 c2]) (u0 u1 u2 : Value) :
    KO w (((w.setCell ⟨B, 0, none⟩ u0).setCell ⟨B, 1, none⟩ u1).setCell ⟨B, 2, none⟩ u2) := by
  refine ⟨by simp [World.setCell], fun g xs hx ho => ?_⟩
  have hne : B ≠ g := by
    intro e
    subst e
    have h1 := (ho.2 0 (by cases xs with | nil => exact absurd rfl hx | cons x t => simp)).1
    rw [(h.2 0 _ rfl).1] at h1
    cases h1
  exact ((ho.setCell (p := ⟨B, 0, none⟩) hne u0).setCell (p := ⟨B, 1, none⟩) hne u1).setCell (p := ⟨B, 2, none⟩) hne u2
theorem PGiv.ko {B0 : Nat} {O : Bool} {X Y Z : List Nat} {W W' : World} {v : Value} (h : PGiv B0 O X Y Z W v) (k : KO W W') : PGiv B0 O X Y Z W' v := by
  obtain ⟨Ra, Rb, Rc, da, db, dc, ka, kb, kc, rfl, h⟩ := h
  exact .mk' (h.ko k)
theorem PAgg.ko {B0 : Nat} {O : Bool} {X Y Z : List Nat} {W W' : World} {v : Value} (h : PAgg B0 O X Y Z W v) (k : KO W W') : PAgg B0 O X Y Z W' v := by
  obtain ⟨Ra, Rb, Rc, da, db, dc, ka, kb, kc, rfl, h⟩ := h
  exact .mk' (h.ko k)
/-- the profile lies in the block that the slot tells -/
def PFinB (sl B0 : Nat) (O : Bool) (X Y Z : List Nat) (a : Act) (W : World) : Prop :=
  ∃ (B : Nat) (Ra Rb Rc : Option Addr) (da db dc ka kb kc : Nat), a.tmps.getD sl undef = .pointer (some ⟨B, 0, none⟩) ∧ B0 ≤ B ∧ BlkL W B [.slice Ra (gLp O X).length da, .slice Rb (gLp O Y).length db, .slice Rc (gLp O Z).length dc] ∧ OwnQ W B0 Ra Rb Rc ka kb kc (gLp O X) (gLp O Y) (gLp O Z)
structure CM (w1 : World) (al st sl : Nat) (O : Bool) (X Y Z : List Nat) (listed : Array Bool) (a : Act) (ww : World) : Prop where
  below : Below w1.heap.size w1 ww
  blk : listed.getD al false = true → listed.getD st false = false → ∃ B, a.tmps.getD sl undef = .pointer (some ⟨B, 0, none⟩) ∧ w1.heap.size ≤ B ∧ BlkL ww B [.slice none 0 0, .slice none 0 0, .slice none 0 0]
  fin : listed.getD st false = true → PFinB sl w1.heap.size O X Y Z a ww
section
variable {w1 ww ww' : World} {al st sl k n : Nat} {O : Bool} {X Y Z : List Nat} {listed : Array Bool} {a a' : Act}
theorem CM.start : CM w1 al st sl O X Y Z (Array.replicate n false) a { w1 with drawn := w1.drawn + 1 } := by
  have f : ∀ i, (Array.replicate n false).getD i false = false := by
    intro i
    rw [Array.getD_eq_getD_getElem?, Array.getElem?_replicate]
    split <;> rfl
  exact ⟨(Below.refl _ _).drew, fun h => absurd (h.symm.trans (f _)) (by decide), fun h => absurd (h.symm.trans (f _)) (by decide)⟩
theorem CM.stepA (h : CM w1 al st sl O X Y Z listed a ww) (hs : listed.size = n) (hn : k < n) (hal : k ≠ al) (hst : k ≠ st) (he : a'.tmps.getD sl undef = a.tmps.getD sl undef) (hb : Below ww.heap.size ww ww') : CM w1 al st sl O X Y Z (listed.setIfInBounds k true) a' ww' := by
  have e : ∀ i, i ≠ k → (listed.setIfInBounds k true).getD i false = listed.getD i false := fun i hi => by rw [getD_set (by omega), if_neg (fun x => hi x.symm)]
  refine ⟨below_of h.below h.below.size hb, ?_, ?_⟩
  · rw [e al (fun x => hal x.symm), e st (fun x => hst x.symm)]
    intro h1 h2
    obtain ⟨B, g, hlo, hblk⟩ := h.blk h1 h2
    exact ⟨B, he.trans g, hlo, hblk.below hb⟩
  · rw [e st (fun x => hst x.symm)]
    intro h1
    obtain ⟨B, Ra, Rb, Rc, da, db, dc, ka, kb, kc, g, hlo, hblk, ho⟩ := h.fin h1
    exact ⟨B, Ra, Rb, Rc, da, db, dc, ka, kb, kc, he.trans g, hlo, hblk.below hb, ho.below hb⟩
theorem CM.step (h : CM w1 al st sl O X Y Z listed a ww) (hs : listed.size = n) (hn : k < n) (hal : k ≠ al) (hst : k ≠ st) (t : Nat) (ht : sl ≠ t) (v : Value) (hb : Below ww.heap.size ww ww') : CM w1 al st sl O X Y Z (listed.setIfInBounds k true) (a.put (some t) v) ww' :=
  h.stepA hs hn hal hst (put_getD a t sl v ht) hb
theorem CM.made (h : CM w1 al st sl O X Y Z listed a ww) (hs : listed.size = n) (hn : al < n) (hst : al ≠ st) (hns : listed.getD st false = false) (hsl : sl < a.tmps.size) (t : TypeId) :
    CM w1 al st sl O X Y Z (listed.setIfInBounds al true) (a.put (some sl) (.pointer (some ⟨ww.heap.size, 0, none⟩))) (ww.alloc (.cells #[.slice none 0 0, .slice none 0 0, .slice none 0 0] t)) := by
  have e : (listed.setIfInBounds al true).getD st false = listed.getD st false := by rw [getD_set (by omega), if_neg hst]
  refine ⟨below_of h.below h.below.size ((Below.refl _ _).alloc (Nat.le_refl _) _), fun _ _ => ⟨ww.heap.size, ?_, h.below.size, blkL_at ww #[_, _, _] t rfl⟩, fun h1 => absurd ((e.trans hns).symm.trans h1) (by decide)⟩
  unfold Act.put
  simp only [Array.getD_eq_getD_getElem?]
  rw [Array.getElem?_setIfInBounds, if_pos rfl, if_pos hsl]
  rfl
theorem CM.stored (h : CM w1 al st sl O X Y Z listed a ww) (hs : listed.size = n) (hn : st < n) (hb : Below w1.heap.size w1 ww') (hf : PFinB sl w1.heap.size O X Y Z a ww') (v : Value) : CM w1 al st sl O X Y Z (listed.setIfInBounds st true) (a.put Option.none v) ww' := by
  have _ := h
  have e : (listed.setIfInBounds st true).getD st false = true := by rw [getD_set (by omega), if_pos rfl]
  exact ⟨hb, fun _ h2 => absurd (h2.symm.trans e) (by decide), fun _ => hf⟩
end
set_option maxHeartbeats 4000000 in
theorem l_markProfile2 (A L D : Option Addr) (b1 b2 b3 B0 ca cl cd k0 : Nat) (a l d : List Nat) (w : World) (h : OwnQ w B0 A L D b1 b2 b3 a l d) (hn : Few a l d) (hk0 : k0 ≤ 2097152) (K : Int) (hK : K = (k0 : Int)) :
    Calls Try.prog 21 #[.agg #[.slice A a.length ca, .slice L l.length cl, .slice D d.length cd], .int .i64 K] w fun e w' => e = .returned (.int .i64 ((k0 : Int) + (a.length : Int) + (l.length : Int) + (d.length : Int))) ∧
      OwnQ w' B0 A L D b1 b2 b3 (marks k0 a.length) (marks (k0 + a.length) l.length) (marks (k0 + a.length + l.length) d.length) ∧ Turn w w' (SQ a l d b1 b2 b3) := by
  unfold Few at hn
  obtain ⟨h1, h2, h3, n12, n13, n23⟩ := h
  have HB : ∀ o1, Hid (Below w.heap.size w (w.alloc o1)) := fun _ => Lib.hid ((Below.refl _ _).alloc (Nat.le_refl _) _)
  have H1 := Lib.hid h1
  have H2 := Lib.hid h2
  have H3 := Lib.hid h3
  clear h1 h2 h3
  subst hK
  go_enter Try.func21, Try.ntmps21
  go_wp2_with fail
  refine (l_markF32 A b1 ca k0 a _ (H1.out.below (HB _).out).a (by omega) (by omega) _ rfl).mono ?_
  rintro e w1 ⟨rfl, m1, t1⟩
  have K0 := blk3_new w (.slice A a.length ca) (.slice L l.length cl) (.slice D d.length cd)
  have K1 : Hid (Blk3 w1 w.heap.size _ _ _) := Lib.hid ((K0 _).turn t1 (H1.out.notS (Nat.le_refl _)))
  have T1 : Hid (Turn w w1 (SQ a l d b1 b2 b3)) := Lib.hid ((Turn.of_below (HB _).out _).trans (t1.mono (fun b hb => .inl hb)))
  have O2 : Hid (OwnO w1 B0 L b2 l) := Lib.hid ((H2.out.below (HB _).out).turn t1 (SB.ne (Ne.symm n12)))
  have O3 : Hid (OwnO w1 B0 D b3 d) := Lib.hid ((H3.out.below (HB _).out).turn t1 (SB.ne (Ne.symm n13)))
  have O1 : Hid (OwnO w1 B0 A b1 (marks k0 a.length)) := Lib.hid (H1.out.marked m1)
  clear t1 m1 K0
  obtain ⟨-, ⟨k0', k1, k2⟩, -, -, -⟩ := K1.out
  go_wp2_with fail
  refine (l_markF32 L b2 cl (k0 + a.length) l _ O2.out.a (by omega) (by omega) _ (by omega)).mono ?_
  rintro e w2 ⟨rfl, m2, t2⟩
  have hz2 : w.heap.size < w1.heap.size := K1.out.1
  have K2 : Hid (Blk3 w2 w.heap.size _ _ _) := Lib.hid (K1.out.turn t2 (H2.out.notS (Nat.le_refl _)))
  have T2 : Hid (Turn w w2 (SQ a l d b1 b2 b3)) := Lib.hid (T1.out.trans (t2.mono (fun b hb => .inr (.inl hb))))
  have P1 : Hid (OwnO w2 B0 A b1 (marks k0 a.length)) := Lib.hid (O1.out.turn t2 (SB.ne n12))
  have P3 : Hid (OwnO w2 B0 D b3 d) := Lib.hid (O3.out.turn t2 (SB.ne (Ne.symm n23)))
  have P2 : Hid (OwnO w2 B0 L b2 (marks (k0 + a.length) l.length)) := Lib.hid (O2.out.marked m2)
  clear t2 m2 k0' k1 k2 O1 O2 O3 T1
  obtain ⟨-, ⟨k0', k1, k2⟩, -, -, -⟩ := K2.out
  go_wp2_with fail
  refine (l_markF32 D b3 cd (k0 + a.length + l.length) d _ P3.out.a (by omega) (by omega) _ (by omega)).mono ?_
  rintro e w3 ⟨rfl, m3, t3⟩
  have T3 : Hid (Turn w w3 (SQ a l d b1 b2 b3)) := Lib.hid (T2.out.trans (t3.mono (fun b hb => .inr (.inr hb))))
  have Q1 : Hid (OwnO w3 B0 A b1 (marks k0 a.length)) := Lib.hid (P1.out.turn t3 (SB.ne n13))
  have Q2 : Hid (OwnO w3 B0 L b2 (marks (k0 + a.length) l.length)) := Lib.hid (P2.out.turn t3 (SB.ne n23))
  have Q3 : Hid (OwnO w3 B0 D b3 (marks (k0 + a.length + l.length) d.length)) := Lib.hid (P3.out.marked m3)
  clear t3 m3
  go_wp2
  go_ret
  exact ⟨rfl, ⟨Q1.out, Q2.out, Q3.out, n12, n13, n23⟩, T3.out⟩
end Go.Proofs.Ytiiiigldpbomkaa
