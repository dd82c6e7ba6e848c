/- The same desks: both sides. No statement is proved here. -/
import Derived.Test.YtiiiigldpbomkaaDssA
import Derived.Test.YtiiiigldpbomkaaDssB
import Derived.Test.YtiiiigldpbomkaaRsmS
namespace Go.Proofs.Ytiiiigldpbomkaa
open Go Go.RowKit
/-- what the numbers of a desk are: words -/
def WDsk (hub tip : Nat) (a l d s : List Nat) (e0 e1 e2 e3 : Nat) (p0 p1 p2 p3 p4 p5 p6 p7 : Nat) (st : Int) (sp pi en : Nat) (fx fy : List Nat) (fr fd fs : Nat) : Prop :=
  (WordsP a l d ∧ Words s ∧ canon .f32 hub < 4294967296 ∧ canon .f32 tip < 4294967296) ∧ (canon .f32 e0 < 4294967296 ∧ canon .f32 e1 < 4294967296 ∧ canon .f32 e2 < 4294967296 ∧ canon .f32 e3 < 4294967296) ∧
  (W8 p0 p1 p2 p3 p4 p5 p6 p7 ∧ canon .f32 sp < 4294967296 ∧ canon .f32 pi < 4294967296 ∧ canon .f32 en < 4294967296) ∧ ((∀ x ∈ fx, x < words .f32) ∧ ∀ x ∈ fy, x < words .f32) ∧ fr < words .f32 ∧ fd < words .f32 ∧ fs < words .f32
def deskE (a l d s : List Nat) (n : Nat) (c : Int) (hub tip : Nat) (e0 e1 e2 e3 : Nat) (p0 p1 p2 p3 p4 p5 p6 p7 : Nat) (st : Int) (sp pi en : Nat) (fx fy : List Nat) (fr fd fs : Nat) (a' l' d' s' : List Nat) (n' : Nat) (c' : Int) (hub' tip' : Nat) (e0' e1' e2' e3' : Nat) (q0 q1 q2 q3 q4 q5 q6 q7 : Nat) (st' : Int) (sp' pi' en' : Nat) (fx' fy' : List Nat) (fr' fd' fs' : Nat) : Bool :=
  rotE a l d s n c hub tip a' l' d' s' n' c' hub' tip' && (airS e0 e1 e2 e3 e0' e1' e2' e3' && (driveE p0 p1 p2 p3 p4 p5 p6 p7 st sp pi en q0 q1 q2 q3 q4 q5 q6 q7 st' sp' pi' en' && frmE fx fy fr fd fs fx' fy' fr' fd' fs'))
theorem air_words {e0 e1 e2 e3 e0' e1' e2' e3' : Nat} (h : canon .f32 e0 < 4294967296 ∧ canon .f32 e1 < 4294967296 ∧ canon .f32 e2 < 4294967296 ∧ canon .f32 e3 < 4294967296) (h' : canon .f32 e0' < 4294967296 ∧ canon .f32 e1' < 4294967296 ∧ canon .f32 e2' < 4294967296 ∧ canon .f32 e3' < 4294967296) :
    ∀ x ∈ [e0, e1, e2, e3, e0', e1', e2', e3'], canon .f32 x < 4294967296 := by
  obtain ⟨h0, h1, h2, h3⟩ := h
  obtain ⟨g0, g1, g2, g3⟩ := h'
  intro x hx
  simp only [List.mem_cons, List.not_mem_nil, or_false] at hx
  rcases hx with rfl | rfl | rfl | rfl | rfl | rfl | rfl | rfl <;> assumption
theorem BlkL.pre7 {w : World} {B : Nat} {v0 v1 v2 v3 v4 v5 v6 : Value} {vs : List Value} (h : BlkL w B (v0 :: v1 :: v2 :: v3 :: v4 :: v5 :: v6 :: vs)) : BlkL w B [v0, v1, v2, v3, v4, v5, v6] := by
  refine ⟨h.1, fun j v hj => h.2 j v ?_⟩
  rcases j with _ | _ | _ | _ | _ | _ | _ | j
  · exact hj
  · exact hj
  · exact hj
  · exact hj
  · exact hj
  · exact hj
  · exact hj
  · simp at hj
set_option maxHeartbeats 16000000 in
set_option maxRecDepth 100000 in
theorem i_SameDesk (A L D S : Option Addr) (ca cl cd n cs : Nat) (c : Int) (hub tip : Nat) (a l d s : List Nat) (e0 e1 e2 e3 : Nat) (p0 p1 p2 p3 p4 p5 p6 p7 : Nat) (st : Int) (sp pi en : Nat) (X Y : Option Addr) (cx cy : Nat) (fx fy : List Nat) (fr fd fs : Nat) (A' L' D' S' : Option Addr) (ca' cl' cd' n' cs' : Nat) (c' : Int) (hub' tip' : Nat) (a' l' d' s' : List Nat) (e0' e1' e2' e3' : Nat) (q0 q1 q2 q3 q4 q5 q6 q7 : Nat) (st' : Int) (sp' pi' en' : Nat) (X' Y' : Option Addr) (cx' cy' : Nat) (fx' fy' : List Nat) (fr' fd' fs' : Nat) (w : World) (hr : Rt w A L D S a l d s) (hnr : FewR a l d s n) (hf : Rs w X Y fx fy) (hnf : FewS fx fy) (hw : WDsk hub tip a l d s e0 e1 e2 e3 p0 p1 p2 p3 p4 p5 p6 p7 st sp pi en fx fy fr fd fs) (hr' : Rt w A' L' D' S' a' l' d' s') (hnr' : FewR a' l' d' s' n') (hf' : Rs w X' Y' fx' fy') (hnf' : FewS fx' fy') (hw' : WDsk hub' tip' a' l' d' s' e0' e1' e2' e3' q0 q1 q2 q3 q4 q5 q6 q7 st' sp' pi' en' fx' fy' fr' fd' fs') :
    Calls Try.prog 63 #[.agg #[.slice A a.length ca, .slice L l.length cl, .slice D d.length cd, .slice S n cs, .int .i64 c, .float .f32 hub, .float .f32 tip, .float .f32 e0, .float .f32 e1, .float .f32 e2, .float .f32 e3, .float .f32 p0, .float .f32 p1, .float .f32 p2, .float .f32 p3, .float .f32 p4, .float .f32 p5, .float .f32 p6, .float .f32 p7, .int .i64 st, .float .f32 sp, .float .f32 pi, .float .f32 en, .slice X fx.length cx, .slice Y fy.length cy, .float .f32 fr, .float .f32 fd, .float .f32 fs], .agg #[.slice A' a'.length ca', .slice L' l'.length cl', .slice D' d'.length cd', .slice S' n' cs', .int .i64 c', .float .f32 hub', .float .f32 tip', .float .f32 e0', .float .f32 e1', .float .f32 e2', .float .f32 e3', .float .f32 q0, .float .f32 q1, .float .f32 q2, .float .f32 q3, .float .f32 q4, .float .f32 q5, .float .f32 q6, .float .f32 q7, .int .i64 st', .float .f32 sp', .float .f32 pi', .float .f32 en', .slice X' fx'.length cx', .slice Y' fy'.length cy', .float .f32 fr', .float .f32 fd', .float .f32 fs']] w fun e w' => e = .returned (.bool (deskE a l d s n c hub tip e0 e1 e2 e3 p0 p1 p2 p3 p4 p5 p6 p7 st sp pi en fx fy fr fd fs a' l' d' s' n' c' hub' tip' e0' e1' e2' e3' q0 q1 q2 q3 q4 q5 q6 q7 st' sp' pi' en' fx' fy' fr' fd' fs')) ∧ Below w.heap.size w w' := by
  obtain ⟨⟨hw0, hw1, hw2⟩, hw3, ⟨hw4, hw5⟩, hw6, hw7⟩ := hw
  obtain ⟨⟨hw0', hw1', hw2'⟩, hw3', ⟨hw4', hw5'⟩, hw6', hw7'⟩ := hw'
  have HR := Lib.hid hr; have HR' := Lib.hid hr'; have HF := Lib.hid hf; have HF' := Lib.hid hf'
  have HW := Lib.hid (And.intro hw6 hw7); have HW' := Lib.hid (And.intro hw6' hw7')
  have HE : Hid ((deskE a l d s n c hub tip e0 e1 e2 e3 p0 p1 p2 p3 p4 p5 p6 p7 st sp pi en fx fy fr fd fs a' l' d' s' n' c' hub' tip' e0' e1' e2' e3' q0 q1 q2 q3 q4 q5 q6 q7 st' sp' pi' en' fx' fy' fr' fd' fs') = (rotE a l d s n c hub tip a' l' d' s' n' c' hub' tip' && (airS e0 e1 e2 e3 e0' e1' e2' e3' && (driveE p0 p1 p2 p3 p4 p5 p6 p7 st sp pi en q0 q1 q2 q3 q4 q5 q6 q7 st' sp' pi' en' && frmE fx fy fr fd fs fx' fy' fr' fd' fs')))) := rfl
  have C0 : ∀ W, Below w.heap.size w W → Hid (Calls Try.prog 141 #[.agg #[.slice A a.length ca, .slice L l.length cl, .slice D d.length cd, .slice S n cs, .int .i64 c, .float .f32 hub, .float .f32 tip], .agg #[.slice A' a'.length ca', .slice L' l'.length cl', .slice D' d'.length cd', .slice S' n' cs', .int .i64 c', .float .f32 hub', .float .f32 tip']] W fun e w' => e = .returned (.bool (rotE a l d s n c hub tip a' l' d' s' n' c' hub' tip')) ∧ Below W.heap.size W w') := fun W hb => Lib.hid (i_SameRotor A L D S ca cl cd n cs c hub tip a l d s A' L' D' S' ca' cl' cd' n' cs' c' hub' tip' a' l' d' s' W (hr.below hb) (hr'.below hb) hnr hnr' hw0 hw0' hw1 hw1' hw2 hw2')
  have C1 : ∀ W, Below w.heap.size w W → Hid (Calls Try.prog 142 #[.agg #[.float .f32 e0, .float .f32 e1, .float .f32 e2, .float .f32 e3], .agg #[.float .f32 e0', .float .f32 e1', .float .f32 e2', .float .f32 e3']] W fun e w' => e = .returned (.bool (airS e0 e1 e2 e3 e0' e1' e2' e3')) ∧ Below W.heap.size W w') := fun W hb => Lib.hid (i_SameAir e0 e1 e2 e3 e0' e1' e2' e3' W (air_words hw3 hw3'))
  have C2 : ∀ W, Below w.heap.size w W → Hid (Calls Try.prog 143 #[.agg #[.float .f32 p0, .float .f32 p1, .float .f32 p2, .float .f32 p3, .float .f32 p4, .float .f32 p5, .float .f32 p6, .float .f32 p7, .int .i64 st, .float .f32 sp, .float .f32 pi, .float .f32 en], .agg #[.float .f32 q0, .float .f32 q1, .float .f32 q2, .float .f32 q3, .float .f32 q4, .float .f32 q5, .float .f32 q6, .float .f32 q7, .int .i64 st', .float .f32 sp', .float .f32 pi', .float .f32 en']] W fun e w' => e = .returned (.bool (driveE p0 p1 p2 p3 p4 p5 p6 p7 st sp pi en q0 q1 q2 q3 q4 q5 q6 q7 st' sp' pi' en')) ∧ Below W.heap.size W w') := fun W hb => Lib.hid (i_SameDrive p0 p1 p2 p3 p4 p5 p6 p7 st sp pi en q0 q1 q2 q3 q4 q5 q6 q7 st' sp' pi' en' W hw4 hw4' hw5 hw5')
  have C3 : ∀ W, Below w.heap.size w W → Hid (Calls Try.prog 144 #[.agg #[.slice X fx.length cx, .slice Y fy.length cy, .float .f32 fr, .float .f32 fd, .float .f32 fs], .agg #[.slice X' fx'.length cx', .slice Y' fy'.length cy', .float .f32 fr', .float .f32 fd', .float .f32 fs']] W fun e w' => e = .returned (.bool (frmE fx fy fr fd fs fx' fy' fr' fd' fs')) ∧ Below W.heap.size W w') := fun W hb => Lib.hid (i_SameFarm X Y cx cy fx fy fr fd fs X' Y' cx' cy' fx' fy' fr' fd' fs' W (hf.below hb) (hf'.below hb) hnf hnf' hw6 hw6' hw7 hw7')
  clear hr hr' hnr hnr' hf hf' hnf hnf' hw0 hw1 hw2 hw3 hw4 hw5 hw6 hw7 hw0' hw1' hw2' hw3' hw4' hw5' hw6' hw7'
  generalize rotE a l d s n c hub tip a' l' d' s' n' c' hub' tip' = t0 at C0 HE
  generalize airS e0 e1 e2 e3 e0' e1' e2' e3' = t1 at C1 HE
  generalize driveE p0 p1 p2 p3 p4 p5 p6 p7 st sp pi en q0 q1 q2 q3 q4 q5 q6 q7 st' sp' pi' en' = t2 at C2 HE
  generalize frmE fx fy fr fd fs fx' fy' fr' fd' fs' = t3 at C3 HE
  generalize deskE a l d s n c hub tip e0 e1 e2 e3 p0 p1 p2 p3 p4 p5 p6 p7 st sp pi en fx fy fr fd fs a' l' d' s' n' c' hub' tip' e0' e1' e2' e3' q0 q1 q2 q3 q4 q5 q6 q7 st' sp' pi' en' fx' fy' fr' fd' fs' = ev at HE ⊢
  obtain ⟨w0, hw0⟩ : ∃ x, x = (w.alloc (.cells #[.slice A a.length ca, .slice L l.length cl, .slice D d.length cd, .slice S n cs, .int .i64 c, .float .f32 hub, .float .f32 tip, .float .f32 e0, .float .f32 e1, .float .f32 e2, .float .f32 e3, .float .f32 p0, .float .f32 p1, .float .f32 p2, .float .f32 p3, .float .f32 p4, .float .f32 p5, .float .f32 p6, .float .f32 p7, .int .i64 st, .float .f32 sp, .float .f32 pi, .float .f32 en, .slice X fx.length cx, .slice Y fy.length cy, .float .f32 fr, .float .f32 fd, .float .f32 fs] 102)).alloc (.cells #[.slice A' a'.length ca', .slice L' l'.length cl', .slice D' d'.length cd', .slice S' n' cs', .int .i64 c', .float .f32 hub', .float .f32 tip', .float .f32 e0', .float .f32 e1', .float .f32 e2', .float .f32 e3', .float .f32 q0, .float .f32 q1, .float .f32 q2, .float .f32 q3, .float .f32 q4, .float .f32 q5, .float .f32 q6, .float .f32 q7, .int .i64 st', .float .f32 sp', .float .f32 pi', .float .f32 en', .slice X' fx'.length cx', .slice Y' fy'.length cy', .float .f32 fr', .float .f32 fd', .float .f32 fs'] 102) := ⟨_, rfl⟩
  have B0 : Hid (Below w.heap.size w w0) := Lib.hid (by rw [hw0]; exact ((Below.refl _ _).alloc (Nat.le_refl _) _).alloc (by simp) _)
  have K0 : Hid (BlkL w0 w.heap.size [.slice A a.length ca, .slice L l.length cl, .slice D d.length cd, .slice S n cs, .int .i64 c, .float .f32 hub, .float .f32 tip, .float .f32 e0, .float .f32 e1, .float .f32 e2, .float .f32 e3, .float .f32 p0, .float .f32 p1, .float .f32 p2, .float .f32 p3, .float .f32 p4, .float .f32 p5, .float .f32 p6, .float .f32 p7, .int .i64 st, .float .f32 sp, .float .f32 pi, .float .f32 en, .slice X fx.length cx, .slice Y fy.length cy, .float .f32 fr, .float .f32 fd, .float .f32 fs]) := Lib.hid (by rw [hw0]; exact (blkL_at w #[.slice A a.length ca, .slice L l.length cl, .slice D d.length cd, .slice S n cs, .int .i64 c, .float .f32 hub, .float .f32 tip, .float .f32 e0, .float .f32 e1, .float .f32 e2, .float .f32 e3, .float .f32 p0, .float .f32 p1, .float .f32 p2, .float .f32 p3, .float .f32 p4, .float .f32 p5, .float .f32 p6, .float .f32 p7, .int .i64 st, .float .f32 sp, .float .f32 pi, .float .f32 en, .slice X fx.length cx, .slice Y fy.length cy, .float .f32 fr, .float .f32 fd, .float .f32 fs] _ rfl).alloc _)
  have M0 : Hid (BlkL w0 (w.heap.size + 1) [.slice A' a'.length ca', .slice L' l'.length cl', .slice D' d'.length cd', .slice S' n' cs', .int .i64 c', .float .f32 hub', .float .f32 tip', .float .f32 e0', .float .f32 e1', .float .f32 e2', .float .f32 e3', .float .f32 q0, .float .f32 q1, .float .f32 q2, .float .f32 q3, .float .f32 q4, .float .f32 q5, .float .f32 q6, .float .f32 q7, .int .i64 st', .float .f32 sp', .float .f32 pi', .float .f32 en', .slice X' fx'.length cx', .slice Y' fy'.length cy', .float .f32 fr', .float .f32 fd', .float .f32 fs']) := Lib.hid (by rw [hw0]; exact blkL_at (w.alloc _) #[.slice A' a'.length ca', .slice L' l'.length cl', .slice D' d'.length cd', .slice S' n' cs', .int .i64 c', .float .f32 hub', .float .f32 tip', .float .f32 e0', .float .f32 e1', .float .f32 e2', .float .f32 e3', .float .f32 q0, .float .f32 q1, .float .f32 q2, .float .f32 q3, .float .f32 q4, .float .f32 q5, .float .f32 q6, .float .f32 q7, .int .i64 st', .float .f32 sp', .float .f32 pi', .float .f32 en', .slice X' fx'.length cx', .slice Y' fy'.length cy', .float .f32 fr', .float .f32 fd', .float .f32 fs'] _ (by simp))
  go_enter Try.func63, Try.ntmps63
  go_wp2_with fail
  rw [← hw0]
  clear hw0
  have k0 := (K0.out.2 0 _ rfl).1
  have l0 := (M0.out.2 0 _ rfl).1
  have k1 := (K0.out.2 1 _ rfl).1
  have l1 := (M0.out.2 1 _ rfl).1
  have k2 := (K0.out.2 2 _ rfl).1
  have l2 := (M0.out.2 2 _ rfl).1
  have k3 := (K0.out.2 3 _ rfl).1
  have l3 := (M0.out.2 3 _ rfl).1
  have k4 := (K0.out.2 4 _ rfl).1
  have l4 := (M0.out.2 4 _ rfl).1
  have k5 := (K0.out.2 5 _ rfl).1
  have l5 := (M0.out.2 5 _ rfl).1
  have k6 := (K0.out.2 6 _ rfl).1
  have l6 := (M0.out.2 6 _ rfl).1
  go_wp2_with fail
  refine (C0 _ B0.out).out.mono ?_
  rintro e w1 ⟨rfl, b⟩
  have B1 : Hid (Below w.heap.size w w1) := Lib.hid (below_of B0.out B0.out.size b)
  have K1 : Hid (BlkL w1 w.heap.size [.slice A a.length ca, .slice L l.length cl, .slice D d.length cd, .slice S n cs, .int .i64 c, .float .f32 hub, .float .f32 tip, .float .f32 e0, .float .f32 e1, .float .f32 e2, .float .f32 e3, .float .f32 p0, .float .f32 p1, .float .f32 p2, .float .f32 p3, .float .f32 p4, .float .f32 p5, .float .f32 p6, .float .f32 p7, .int .i64 st, .float .f32 sp, .float .f32 pi, .float .f32 en, .slice X fx.length cx, .slice Y fy.length cy, .float .f32 fr, .float .f32 fd, .float .f32 fs]) := Lib.hid (K0.out.below b)
  have M1 : Hid (BlkL w1 (w.heap.size + 1) [.slice A' a'.length ca', .slice L' l'.length cl', .slice D' d'.length cd', .slice S' n' cs', .int .i64 c', .float .f32 hub', .float .f32 tip', .float .f32 e0', .float .f32 e1', .float .f32 e2', .float .f32 e3', .float .f32 q0, .float .f32 q1, .float .f32 q2, .float .f32 q3, .float .f32 q4, .float .f32 q5, .float .f32 q6, .float .f32 q7, .int .i64 st', .float .f32 sp', .float .f32 pi', .float .f32 en', .slice X' fx'.length cx', .slice Y' fy'.length cy', .float .f32 fr', .float .f32 fd', .float .f32 fs']) := Lib.hid (M0.out.below b)
  clear b
  clear k0 l0 k1 l1 k2 l2 k3 l3 k4 l4 k5 l5 k6 l6
  cases t0
  · go_wp2
    go_ret
    exact ⟨by rw [HE.out]; rfl, B1.out⟩
  · skip
    have k7 := (K1.out.2 7 _ rfl).1
    have l7 := (M1.out.2 7 _ rfl).1
    have k8 := (K1.out.2 8 _ rfl).1
    have l8 := (M1.out.2 8 _ rfl).1
    have k9 := (K1.out.2 9 _ rfl).1
    have l9 := (M1.out.2 9 _ rfl).1
    have k10 := (K1.out.2 10 _ rfl).1
    have l10 := (M1.out.2 10 _ rfl).1
    go_wp2_with fail
    refine (C1 _ B1.out).out.mono ?_
    rintro e w2 ⟨rfl, b⟩
    have B2 : Hid (Below w.heap.size w w2) := Lib.hid (below_of B1.out B1.out.size b)
    have K2 : Hid (BlkL w2 w.heap.size [.slice A a.length ca, .slice L l.length cl, .slice D d.length cd, .slice S n cs, .int .i64 c, .float .f32 hub, .float .f32 tip, .float .f32 e0, .float .f32 e1, .float .f32 e2, .float .f32 e3, .float .f32 p0, .float .f32 p1, .float .f32 p2, .float .f32 p3, .float .f32 p4, .float .f32 p5, .float .f32 p6, .float .f32 p7, .int .i64 st, .float .f32 sp, .float .f32 pi, .float .f32 en, .slice X fx.length cx, .slice Y fy.length cy, .float .f32 fr, .float .f32 fd, .float .f32 fs]) := Lib.hid (K1.out.below b)
    have M2 : Hid (BlkL w2 (w.heap.size + 1) [.slice A' a'.length ca', .slice L' l'.length cl', .slice D' d'.length cd', .slice S' n' cs', .int .i64 c', .float .f32 hub', .float .f32 tip', .float .f32 e0', .float .f32 e1', .float .f32 e2', .float .f32 e3', .float .f32 q0, .float .f32 q1, .float .f32 q2, .float .f32 q3, .float .f32 q4, .float .f32 q5, .float .f32 q6, .float .f32 q7, .int .i64 st', .float .f32 sp', .float .f32 pi', .float .f32 en', .slice X' fx'.length cx', .slice Y' fy'.length cy', .float .f32 fr', .float .f32 fd', .float .f32 fs']) := Lib.hid (M1.out.below b)
    clear b
    clear k7 l7 k8 l8 k9 l9 k10 l10
    cases t1
    · go_wp2
      go_ret
      exact ⟨by rw [HE.out]; rfl, B2.out⟩
    · skip
      have k11 := (K2.out.2 11 _ rfl).1
      have l11 := (M2.out.2 11 _ rfl).1
      have k12 := (K2.out.2 12 _ rfl).1
      have l12 := (M2.out.2 12 _ rfl).1
      have k13 := (K2.out.2 13 _ rfl).1
      have l13 := (M2.out.2 13 _ rfl).1
      have k14 := (K2.out.2 14 _ rfl).1
      have l14 := (M2.out.2 14 _ rfl).1
      have k15 := (K2.out.2 15 _ rfl).1
      have l15 := (M2.out.2 15 _ rfl).1
      have k16 := (K2.out.2 16 _ rfl).1
      have l16 := (M2.out.2 16 _ rfl).1
      have k17 := (K2.out.2 17 _ rfl).1
      have l17 := (M2.out.2 17 _ rfl).1
      have k18 := (K2.out.2 18 _ rfl).1
      have l18 := (M2.out.2 18 _ rfl).1
      have k19 := (K2.out.2 19 _ rfl).1
      have l19 := (M2.out.2 19 _ rfl).1
      have k20 := (K2.out.2 20 _ rfl).1
      have l20 := (M2.out.2 20 _ rfl).1
      have k21 := (K2.out.2 21 _ rfl).1
      have l21 := (M2.out.2 21 _ rfl).1
      have k22 := (K2.out.2 22 _ rfl).1
      have l22 := (M2.out.2 22 _ rfl).1
      go_wp2_with fail
      refine (C2 _ B2.out).out.mono ?_
      rintro e w3 ⟨rfl, b⟩
      have B3 : Hid (Below w.heap.size w w3) := Lib.hid (below_of B2.out B2.out.size b)
      have K3 : Hid (BlkL w3 w.heap.size [.slice A a.length ca, .slice L l.length cl, .slice D d.length cd, .slice S n cs, .int .i64 c, .float .f32 hub, .float .f32 tip, .float .f32 e0, .float .f32 e1, .float .f32 e2, .float .f32 e3, .float .f32 p0, .float .f32 p1, .float .f32 p2, .float .f32 p3, .float .f32 p4, .float .f32 p5, .float .f32 p6, .float .f32 p7, .int .i64 st, .float .f32 sp, .float .f32 pi, .float .f32 en, .slice X fx.length cx, .slice Y fy.length cy, .float .f32 fr, .float .f32 fd, .float .f32 fs]) := Lib.hid (K2.out.below b)
      have M3 : Hid (BlkL w3 (w.heap.size + 1) [.slice A' a'.length ca', .slice L' l'.length cl', .slice D' d'.length cd', .slice S' n' cs', .int .i64 c', .float .f32 hub', .float .f32 tip', .float .f32 e0', .float .f32 e1', .float .f32 e2', .float .f32 e3', .float .f32 q0, .float .f32 q1, .float .f32 q2, .float .f32 q3, .float .f32 q4, .float .f32 q5, .float .f32 q6, .float .f32 q7, .int .i64 st', .float .f32 sp', .float .f32 pi', .float .f32 en', .slice X' fx'.length cx', .slice Y' fy'.length cy', .float .f32 fr', .float .f32 fd', .float .f32 fs']) := Lib.hid (M2.out.below b)
      clear b
      clear k11 l11 k12 l12 k13 l13 k14 l14 k15 l15 k16 l16 k17 l17 k18 l18 k19 l19 k20 l20 k21 l21 k22 l22
      cases t2
      · go_wp2
        go_ret
        exact ⟨by rw [HE.out]; rfl, B3.out⟩
      · skip
        have k23 := (K3.out.2 23 _ rfl).1
        have l23 := (M3.out.2 23 _ rfl).1
        have k24 := (K3.out.2 24 _ rfl).1
        have l24 := (M3.out.2 24 _ rfl).1
        have k25 := (K3.out.2 25 _ rfl).1
        have l25 := (M3.out.2 25 _ rfl).1
        have k26 := (K3.out.2 26 _ rfl).1
        have l26 := (M3.out.2 26 _ rfl).1
        have k27 := (K3.out.2 27 _ rfl).1
        have l27 := (M3.out.2 27 _ rfl).1
        go_wp2_with fail
        refine (C3 _ B3.out).out.mono ?_
        rintro e w4 ⟨rfl, b⟩
        have B4 : Hid (Below w.heap.size w w4) := Lib.hid (below_of B3.out B3.out.size b)
        have K4 : Hid (BlkL w4 w.heap.size [.slice A a.length ca, .slice L l.length cl, .slice D d.length cd, .slice S n cs, .int .i64 c, .float .f32 hub, .float .f32 tip, .float .f32 e0, .float .f32 e1, .float .f32 e2, .float .f32 e3, .float .f32 p0, .float .f32 p1, .float .f32 p2, .float .f32 p3, .float .f32 p4, .float .f32 p5, .float .f32 p6, .float .f32 p7, .int .i64 st, .float .f32 sp, .float .f32 pi, .float .f32 en, .slice X fx.length cx, .slice Y fy.length cy, .float .f32 fr, .float .f32 fd, .float .f32 fs]) := Lib.hid (K3.out.below b)
        have M4 : Hid (BlkL w4 (w.heap.size + 1) [.slice A' a'.length ca', .slice L' l'.length cl', .slice D' d'.length cd', .slice S' n' cs', .int .i64 c', .float .f32 hub', .float .f32 tip', .float .f32 e0', .float .f32 e1', .float .f32 e2', .float .f32 e3', .float .f32 q0, .float .f32 q1, .float .f32 q2, .float .f32 q3, .float .f32 q4, .float .f32 q5, .float .f32 q6, .float .f32 q7, .int .i64 st', .float .f32 sp', .float .f32 pi', .float .f32 en', .slice X' fx'.length cx', .slice Y' fy'.length cy', .float .f32 fr', .float .f32 fd', .float .f32 fs']) := Lib.hid (M3.out.below b)
        clear b
        clear k23 l23 k24 l24 k25 l25 k26 l26 k27 l27
        go_wp2
        go_ret
        exact ⟨by rw [HE.out]; rfl, B4.out⟩
set_option maxHeartbeats 16000000 in
set_option maxRecDepth 100000 in
theorem s_SameDesk (A L D S : Option Addr) (ca cl cd n cs : Nat) (c : Int) (hub tip : Nat) (a l d s : List Nat) (e0 e1 e2 e3 : Nat) (p0 p1 p2 p3 p4 p5 p6 p7 : Nat) (st : Int) (sp pi en : Nat) (X Y : Option Addr) (cx cy : Nat) (fx fy : List Nat) (fr fd fs : Nat) (A' L' D' S' : Option Addr) (ca' cl' cd' n' cs' : Nat) (c' : Int) (hub' tip' : Nat) (a' l' d' s' : List Nat) (e0' e1' e2' e3' : Nat) (q0 q1 q2 q3 q4 q5 q6 q7 : Nat) (st' : Int) (sp' pi' en' : Nat) (X' Y' : Option Addr) (cx' cy' : Nat) (fx' fy' : List Nat) (fr' fd' fs' : Nat) (w : World) (hr : Rt w A L D S a l d s) (hnr : FewR a l d s n) (hf : Rs w X Y fx fy) (hnf : FewS fx fy) (hw : WDsk hub tip a l d s e0 e1 e2 e3 p0 p1 p2 p3 p4 p5 p6 p7 st sp pi en fx fy fr fd fs) (hr' : Rt w A' L' D' S' a' l' d' s') (hnr' : FewR a' l' d' s' n') (hf' : Rs w X' Y' fx' fy') (hnf' : FewS fx' fy') (hw' : WDsk hub' tip' a' l' d' s' e0' e1' e2' e3' q0 q1 q2 q3 q4 q5 q6 q7 st' sp' pi' en' fx' fy' fr' fd' fs') :
    Calls Try.prog 61 #[.agg #[.slice A a.length ca, .slice L l.length cl, .slice D d.length cd, .slice S n cs, .int .i64 c, .float .f32 hub, .float .f32 tip, .float .f32 e0, .float .f32 e1, .float .f32 e2, .float .f32 e3, .float .f32 p0, .float .f32 p1, .float .f32 p2, .float .f32 p3, .float .f32 p4, .float .f32 p5, .float .f32 p6, .float .f32 p7, .int .i64 st, .float .f32 sp, .float .f32 pi, .float .f32 en, .slice X fx.length cx, .slice Y fy.length cy, .float .f32 fr, .float .f32 fd, .float .f32 fs], .agg #[.slice A' a'.length ca', .slice L' l'.length cl', .slice D' d'.length cd', .slice S' n' cs', .int .i64 c', .float .f32 hub', .float .f32 tip', .float .f32 e0', .float .f32 e1', .float .f32 e2', .float .f32 e3', .float .f32 q0, .float .f32 q1, .float .f32 q2, .float .f32 q3, .float .f32 q4, .float .f32 q5, .float .f32 q6, .float .f32 q7, .int .i64 st', .float .f32 sp', .float .f32 pi', .float .f32 en', .slice X' fx'.length cx', .slice Y' fy'.length cy', .float .f32 fr', .float .f32 fd', .float .f32 fs']] w fun e w' => e = .returned (.bool (deskE a l d s n c hub tip e0 e1 e2 e3 p0 p1 p2 p3 p4 p5 p6 p7 st sp pi en fx fy fr fd fs a' l' d' s' n' c' hub' tip' e0' e1' e2' e3' q0 q1 q2 q3 q4 q5 q6 q7 st' sp' pi' en' fx' fy' fr' fd' fs')) ∧ Below w.heap.size w w' := by
  obtain ⟨⟨hw0, hw1, hw2⟩, hw3, ⟨hw4, hw5⟩, hw6, hw7⟩ := hw
  obtain ⟨⟨hw0', hw1', hw2'⟩, hw3', ⟨hw4', hw5'⟩, hw6', hw7'⟩ := hw'
  have HR := Lib.hid hr; have HR' := Lib.hid hr'; have HF := Lib.hid hf; have HF' := Lib.hid hf'
  have HW := Lib.hid (And.intro hw6 hw7); have HW' := Lib.hid (And.intro hw6' hw7')
  have HE : Hid ((deskE a l d s n c hub tip e0 e1 e2 e3 p0 p1 p2 p3 p4 p5 p6 p7 st sp pi en fx fy fr fd fs a' l' d' s' n' c' hub' tip' e0' e1' e2' e3' q0 q1 q2 q3 q4 q5 q6 q7 st' sp' pi' en' fx' fy' fr' fd' fs') = (rotE a l d s n c hub tip a' l' d' s' n' c' hub' tip' && (airS e0 e1 e2 e3 e0' e1' e2' e3' && (driveE p0 p1 p2 p3 p4 p5 p6 p7 st sp pi en q0 q1 q2 q3 q4 q5 q6 q7 st' sp' pi' en' && frmE fx fy fr fd fs fx' fy' fr' fd' fs')))) := rfl
  have C0 : ∀ W B B', Below w.heap.size w W → BlkL W B [.slice A a.length ca, .slice L l.length cl, .slice D d.length cd, .slice S n cs, .int .i64 c, .float .f32 hub, .float .f32 tip, .float .f32 e0, .float .f32 e1, .float .f32 e2, .float .f32 e3, .float .f32 p0, .float .f32 p1, .float .f32 p2, .float .f32 p3, .float .f32 p4, .float .f32 p5, .float .f32 p6, .float .f32 p7, .int .i64 st, .float .f32 sp, .float .f32 pi, .float .f32 en, .slice X fx.length cx, .slice Y fy.length cy, .float .f32 fr, .float .f32 fd, .float .f32 fs] → BlkL W B' [.slice A' a'.length ca', .slice L' l'.length cl', .slice D' d'.length cd', .slice S' n' cs', .int .i64 c', .float .f32 hub', .float .f32 tip', .float .f32 e0', .float .f32 e1', .float .f32 e2', .float .f32 e3', .float .f32 q0, .float .f32 q1, .float .f32 q2, .float .f32 q3, .float .f32 q4, .float .f32 q5, .float .f32 q6, .float .f32 q7, .int .i64 st', .float .f32 sp', .float .f32 pi', .float .f32 en', .slice X' fx'.length cx', .slice Y' fy'.length cy', .float .f32 fr', .float .f32 fd', .float .f32 fs'] → Hid (Calls Try.prog 136 #[.pointer (some ⟨B, 0, none⟩), .pointer (some ⟨B', 0, none⟩)] W fun e w' => e = .returned (.bool (rotE a l d s n c hub tip a' l' d' s' n' c' hub' tip')) ∧ Below W.heap.size W w') := fun W B B' hb hk hk' => Lib.hid (s_l03Same A L D S ca cl cd n cs c hub tip a l d s A' L' D' S' ca' cl' cd' n' cs' c' hub' tip' a' l' d' s' B B' W (hr.below hb) (hr'.below hb) hnr hnr' hw0 hw0' hw1 hw1' hw2 hw2' hk.pre7 hk'.pre7)
  have C1 : ∀ W B B', Below w.heap.size w W → BlkL W B [.slice A a.length ca, .slice L l.length cl, .slice D d.length cd, .slice S n cs, .int .i64 c, .float .f32 hub, .float .f32 tip, .float .f32 e0, .float .f32 e1, .float .f32 e2, .float .f32 e3, .float .f32 p0, .float .f32 p1, .float .f32 p2, .float .f32 p3, .float .f32 p4, .float .f32 p5, .float .f32 p6, .float .f32 p7, .int .i64 st, .float .f32 sp, .float .f32 pi, .float .f32 en, .slice X fx.length cx, .slice Y fy.length cy, .float .f32 fr, .float .f32 fd, .float .f32 fs] → BlkL W B' [.slice A' a'.length ca', .slice L' l'.length cl', .slice D' d'.length cd', .slice S' n' cs', .int .i64 c', .float .f32 hub', .float .f32 tip', .float .f32 e0', .float .f32 e1', .float .f32 e2', .float .f32 e3', .float .f32 q0, .float .f32 q1, .float .f32 q2, .float .f32 q3, .float .f32 q4, .float .f32 q5, .float .f32 q6, .float .f32 q7, .int .i64 st', .float .f32 sp', .float .f32 pi', .float .f32 en', .slice X' fx'.length cx', .slice Y' fy'.length cy', .float .f32 fr', .float .f32 fd', .float .f32 fs'] → Hid (Calls Try.prog 137 #[.pointer (some ⟨B, 7, none⟩), .pointer (some ⟨B', 7, none⟩)] W fun e w' => e = .returned (.bool (airS e0 e1 e2 e3 e0' e1' e2' e3')) ∧ Below W.heap.size W w') := fun W B B' hb hk hk' => Lib.hid ((s_l04SameD e0 e1 e2 e3 e0' e1' e2' e3' B B' W ⟨(hk.2 7 _ rfl).1, (hk.2 8 _ rfl).1, (hk.2 9 _ rfl).1, (hk.2 10 _ rfl).1⟩ ⟨(hk'.2 7 _ rfl).1, (hk'.2 8 _ rfl).1, (hk'.2 9 _ rfl).1, (hk'.2 10 _ rfl).1⟩ (air_words hw3 hw3')).mono fun e w' h => by obtain ⟨n, rfl, rfl⟩ := h; exact ⟨rfl, below_draws (Below.refl _ _) _⟩)
  have C2 : ∀ W B B', Below w.heap.size w W → BlkL W B [.slice A a.length ca, .slice L l.length cl, .slice D d.length cd, .slice S n cs, .int .i64 c, .float .f32 hub, .float .f32 tip, .float .f32 e0, .float .f32 e1, .float .f32 e2, .float .f32 e3, .float .f32 p0, .float .f32 p1, .float .f32 p2, .float .f32 p3, .float .f32 p4, .float .f32 p5, .float .f32 p6, .float .f32 p7, .int .i64 st, .float .f32 sp, .float .f32 pi, .float .f32 en, .slice X fx.length cx, .slice Y fy.length cy, .float .f32 fr, .float .f32 fd, .float .f32 fs] → BlkL W B' [.slice A' a'.length ca', .slice L' l'.length cl', .slice D' d'.length cd', .slice S' n' cs', .int .i64 c', .float .f32 hub', .float .f32 tip', .float .f32 e0', .float .f32 e1', .float .f32 e2', .float .f32 e3', .float .f32 q0, .float .f32 q1, .float .f32 q2, .float .f32 q3, .float .f32 q4, .float .f32 q5, .float .f32 q6, .float .f32 q7, .int .i64 st', .float .f32 sp', .float .f32 pi', .float .f32 en', .slice X' fx'.length cx', .slice Y' fy'.length cy', .float .f32 fr', .float .f32 fd', .float .f32 fs'] → Hid (Calls Try.prog 138 #[.pointer (some ⟨B, 11, none⟩), .pointer (some ⟨B', 11, none⟩)] W fun e w' => e = .returned (.bool (driveE p0 p1 p2 p3 p4 p5 p6 p7 st sp pi en q0 q1 q2 q3 q4 q5 q6 q7 st' sp' pi' en')) ∧ Below W.heap.size W w') := fun W B B' hb hk hk' => Lib.hid ((s_l05SameD p0 p1 p2 p3 p4 p5 p6 p7 st sp pi en q0 q1 q2 q3 q4 q5 q6 q7 st' sp' pi' en' B B' W ⟨⟨(hk.2 11 _ rfl).1, (hk.2 12 _ rfl).1, (hk.2 13 _ rfl).1, (hk.2 14 _ rfl).1, (hk.2 15 _ rfl).1, (hk.2 16 _ rfl).1, (hk.2 17 _ rfl).1, (hk.2 18 _ rfl).1⟩, (hk.2 19 _ rfl).1, (hk.2 20 _ rfl).1, (hk.2 21 _ rfl).1, (hk.2 22 _ rfl).1⟩ ⟨⟨(hk'.2 11 _ rfl).1, (hk'.2 12 _ rfl).1, (hk'.2 13 _ rfl).1, (hk'.2 14 _ rfl).1, (hk'.2 15 _ rfl).1, (hk'.2 16 _ rfl).1, (hk'.2 17 _ rfl).1, (hk'.2 18 _ rfl).1⟩, (hk'.2 19 _ rfl).1, (hk'.2 20 _ rfl).1, (hk'.2 21 _ rfl).1, (hk'.2 22 _ rfl).1⟩ hw4 hw4' hw5 hw5').mono fun e w' h => by obtain ⟨n, rfl, rfl⟩ := h; exact ⟨rfl, below_draws (Below.refl _ _) _⟩)
  have C3 : ∀ W B B', Below w.heap.size w W → BlkL W B [.slice A a.length ca, .slice L l.length cl, .slice D d.length cd, .slice S n cs, .int .i64 c, .float .f32 hub, .float .f32 tip, .float .f32 e0, .float .f32 e1, .float .f32 e2, .float .f32 e3, .float .f32 p0, .float .f32 p1, .float .f32 p2, .float .f32 p3, .float .f32 p4, .float .f32 p5, .float .f32 p6, .float .f32 p7, .int .i64 st, .float .f32 sp, .float .f32 pi, .float .f32 en, .slice X fx.length cx, .slice Y fy.length cy, .float .f32 fr, .float .f32 fd, .float .f32 fs] → BlkL W B' [.slice A' a'.length ca', .slice L' l'.length cl', .slice D' d'.length cd', .slice S' n' cs', .int .i64 c', .float .f32 hub', .float .f32 tip', .float .f32 e0', .float .f32 e1', .float .f32 e2', .float .f32 e3', .float .f32 q0, .float .f32 q1, .float .f32 q2, .float .f32 q3, .float .f32 q4, .float .f32 q5, .float .f32 q6, .float .f32 q7, .int .i64 st', .float .f32 sp', .float .f32 pi', .float .f32 en', .slice X' fx'.length cx', .slice Y' fy'.length cy', .float .f32 fr', .float .f32 fd', .float .f32 fs'] → Hid (Calls Try.prog 139 #[.pointer (some ⟨B, 23, none⟩), .pointer (some ⟨B', 23, none⟩)] W fun e w' => e = .returned (.bool (frmE fx fy fr fd fs fx' fy' fr' fd' fs')) ∧ Below W.heap.size W w') := fun W B B' hb hk hk' => Lib.hid ((s_l06SameD X Y cx cy fx fy fr fd fs X' Y' cx' cy' fx' fy' fr' fd' fs' B B' W (hf.below hb) (hf'.below hb) hnf hnf' hw6 hw6' hw7 hw7' ⟨(hk.2 23 _ rfl).1, (hk.2 24 _ rfl).1, (hk.2 25 _ rfl).1, (hk.2 26 _ rfl).1, (hk.2 27 _ rfl).1⟩ ⟨(hk'.2 23 _ rfl).1, (hk'.2 24 _ rfl).1, (hk'.2 25 _ rfl).1, (hk'.2 26 _ rfl).1, (hk'.2 27 _ rfl).1⟩).mono fun e w' h => by obtain ⟨rfl, n, rfl⟩ := h; exact ⟨rfl, below_draws (Below.refl _ _) _⟩)
  clear hr hr' hnr hnr' hf hf' hnf hnf' hw0 hw1 hw2 hw3 hw4 hw5 hw6 hw7 hw0' hw1' hw2' hw3' hw4' hw5' hw6' hw7'
  generalize rotE a l d s n c hub tip a' l' d' s' n' c' hub' tip' = t0 at C0 HE
  generalize airS e0 e1 e2 e3 e0' e1' e2' e3' = t1 at C1 HE
  generalize driveE p0 p1 p2 p3 p4 p5 p6 p7 st sp pi en q0 q1 q2 q3 q4 q5 q6 q7 st' sp' pi' en' = t2 at C2 HE
  generalize frmE fx fy fr fd fs fx' fy' fr' fd' fs' = t3 at C3 HE
  generalize deskE a l d s n c hub tip e0 e1 e2 e3 p0 p1 p2 p3 p4 p5 p6 p7 st sp pi en fx fy fr fd fs a' l' d' s' n' c' hub' tip' e0' e1' e2' e3' q0 q1 q2 q3 q4 q5 q6 q7 st' sp' pi' en' fx' fy' fr' fd' fs' = ev at HE ⊢
  obtain ⟨w0, hw0⟩ : ∃ x, x = (w.alloc (.cells #[.slice A a.length ca, .slice L l.length cl, .slice D d.length cd, .slice S n cs, .int .i64 c, .float .f32 hub, .float .f32 tip, .float .f32 e0, .float .f32 e1, .float .f32 e2, .float .f32 e3, .float .f32 p0, .float .f32 p1, .float .f32 p2, .float .f32 p3, .float .f32 p4, .float .f32 p5, .float .f32 p6, .float .f32 p7, .int .i64 st, .float .f32 sp, .float .f32 pi, .float .f32 en, .slice X fx.length cx, .slice Y fy.length cy, .float .f32 fr, .float .f32 fd, .float .f32 fs] 102)).alloc (.cells #[.slice A' a'.length ca', .slice L' l'.length cl', .slice D' d'.length cd', .slice S' n' cs', .int .i64 c', .float .f32 hub', .float .f32 tip', .float .f32 e0', .float .f32 e1', .float .f32 e2', .float .f32 e3', .float .f32 q0, .float .f32 q1, .float .f32 q2, .float .f32 q3, .float .f32 q4, .float .f32 q5, .float .f32 q6, .float .f32 q7, .int .i64 st', .float .f32 sp', .float .f32 pi', .float .f32 en', .slice X' fx'.length cx', .slice Y' fy'.length cy', .float .f32 fr', .float .f32 fd', .float .f32 fs'] 102) := ⟨_, rfl⟩
  have B0 : Hid (Below w.heap.size w w0) := Lib.hid (by rw [hw0]; exact ((Below.refl _ _).alloc (Nat.le_refl _) _).alloc (by simp) _)
  have K0 : Hid (BlkL w0 w.heap.size [.slice A a.length ca, .slice L l.length cl, .slice D d.length cd, .slice S n cs, .int .i64 c, .float .f32 hub, .float .f32 tip, .float .f32 e0, .float .f32 e1, .float .f32 e2, .float .f32 e3, .float .f32 p0, .float .f32 p1, .float .f32 p2, .float .f32 p3, .float .f32 p4, .float .f32 p5, .float .f32 p6, .float .f32 p7, .int .i64 st, .float .f32 sp, .float .f32 pi, .float .f32 en, .slice X fx.length cx, .slice Y fy.length cy, .float .f32 fr, .float .f32 fd, .float .f32 fs]) := Lib.hid (by rw [hw0]; exact (blkL_at w #[.slice A a.length ca, .slice L l.length cl, .slice D d.length cd, .slice S n cs, .int .i64 c, .float .f32 hub, .float .f32 tip, .float .f32 e0, .float .f32 e1, .float .f32 e2, .float .f32 e3, .float .f32 p0, .float .f32 p1, .float .f32 p2, .float .f32 p3, .float .f32 p4, .float .f32 p5, .float .f32 p6, .float .f32 p7, .int .i64 st, .float .f32 sp, .float .f32 pi, .float .f32 en, .slice X fx.length cx, .slice Y fy.length cy, .float .f32 fr, .float .f32 fd, .float .f32 fs] _ rfl).alloc _)
  have M0 : Hid (BlkL w0 (w.heap.size + 1) [.slice A' a'.length ca', .slice L' l'.length cl', .slice D' d'.length cd', .slice S' n' cs', .int .i64 c', .float .f32 hub', .float .f32 tip', .float .f32 e0', .float .f32 e1', .float .f32 e2', .float .f32 e3', .float .f32 q0, .float .f32 q1, .float .f32 q2, .float .f32 q3, .float .f32 q4, .float .f32 q5, .float .f32 q6, .float .f32 q7, .int .i64 st', .float .f32 sp', .float .f32 pi', .float .f32 en', .slice X' fx'.length cx', .slice Y' fy'.length cy', .float .f32 fr', .float .f32 fd', .float .f32 fs']) := Lib.hid (by rw [hw0]; exact blkL_at (w.alloc _) #[.slice A' a'.length ca', .slice L' l'.length cl', .slice D' d'.length cd', .slice S' n' cs', .int .i64 c', .float .f32 hub', .float .f32 tip', .float .f32 e0', .float .f32 e1', .float .f32 e2', .float .f32 e3', .float .f32 q0, .float .f32 q1, .float .f32 q2, .float .f32 q3, .float .f32 q4, .float .f32 q5, .float .f32 q6, .float .f32 q7, .int .i64 st', .float .f32 sp', .float .f32 pi', .float .f32 en', .slice X' fx'.length cx', .slice Y' fy'.length cy', .float .f32 fr', .float .f32 fd', .float .f32 fs'] _ (by simp))
  go_enter Try.func61, Try.ntmps61
  go_wp2_with fail
  rw [← hw0]
  clear hw0
  refine (C0 _ _ _ B0.out K0.out M0.out).out.mono ?_
  rintro e w1 ⟨rfl, b⟩
  have B1 : Hid (Below w.heap.size w w1) := Lib.hid (below_of B0.out B0.out.size b)
  have K1 : Hid (BlkL w1 w.heap.size [.slice A a.length ca, .slice L l.length cl, .slice D d.length cd, .slice S n cs, .int .i64 c, .float .f32 hub, .float .f32 tip, .float .f32 e0, .float .f32 e1, .float .f32 e2, .float .f32 e3, .float .f32 p0, .float .f32 p1, .float .f32 p2, .float .f32 p3, .float .f32 p4, .float .f32 p5, .float .f32 p6, .float .f32 p7, .int .i64 st, .float .f32 sp, .float .f32 pi, .float .f32 en, .slice X fx.length cx, .slice Y fy.length cy, .float .f32 fr, .float .f32 fd, .float .f32 fs]) := Lib.hid (K0.out.below b)
  have M1 : Hid (BlkL w1 (w.heap.size + 1) [.slice A' a'.length ca', .slice L' l'.length cl', .slice D' d'.length cd', .slice S' n' cs', .int .i64 c', .float .f32 hub', .float .f32 tip', .float .f32 e0', .float .f32 e1', .float .f32 e2', .float .f32 e3', .float .f32 q0, .float .f32 q1, .float .f32 q2, .float .f32 q3, .float .f32 q4, .float .f32 q5, .float .f32 q6, .float .f32 q7, .int .i64 st', .float .f32 sp', .float .f32 pi', .float .f32 en', .slice X' fx'.length cx', .slice Y' fy'.length cy', .float .f32 fr', .float .f32 fd', .float .f32 fs']) := Lib.hid (M0.out.below b)
  clear b
  cases t0
  · go_wp2
    go_ret
    exact ⟨by rw [HE.out]; rfl, B1.out⟩
  · skip
    go_wp2_with fail
    refine (C1 _ _ _ B1.out K1.out M1.out).out.mono ?_
    rintro e w2 ⟨rfl, b⟩
    have B2 : Hid (Below w.heap.size w w2) := Lib.hid (below_of B1.out B1.out.size b)
    have K2 : Hid (BlkL w2 w.heap.size [.slice A a.length ca, .slice L l.length cl, .slice D d.length cd, .slice S n cs, .int .i64 c, .float .f32 hub, .float .f32 tip, .float .f32 e0, .float .f32 e1, .float .f32 e2, .float .f32 e3, .float .f32 p0, .float .f32 p1, .float .f32 p2, .float .f32 p3, .float .f32 p4, .float .f32 p5, .float .f32 p6, .float .f32 p7, .int .i64 st, .float .f32 sp, .float .f32 pi, .float .f32 en, .slice X fx.length cx, .slice Y fy.length cy, .float .f32 fr, .float .f32 fd, .float .f32 fs]) := Lib.hid (K1.out.below b)
    have M2 : Hid (BlkL w2 (w.heap.size + 1) [.slice A' a'.length ca', .slice L' l'.length cl', .slice D' d'.length cd', .slice S' n' cs', .int .i64 c', .float .f32 hub', .float .f32 tip', .float .f32 e0', .float .f32 e1', .float .f32 e2', .float .f32 e3', .float .f32 q0, .float .f32 q1, .float .f32 q2, .float .f32 q3, .float .f32 q4, .float .f32 q5, .float .f32 q6, .float .f32 q7, .int .i64 st', .float .f32 sp', .float .f32 pi', .float .f32 en', .slice X' fx'.length cx', .slice Y' fy'.length cy', .float .f32 fr', .float .f32 fd', .float .f32 fs']) := Lib.hid (M1.out.below b)
    clear b
    cases t1
    · go_wp2
      go_ret
      exact ⟨by rw [HE.out]; rfl, B2.out⟩
    · skip
      go_wp2_with fail
      refine (C2 _ _ _ B2.out K2.out M2.out).out.mono ?_
      rintro e w3 ⟨rfl, b⟩
      have B3 : Hid (Below w.heap.size w w3) := Lib.hid (below_of B2.out B2.out.size b)
      have K3 : Hid (BlkL w3 w.heap.size [.slice A a.length ca, .slice L l.length cl, .slice D d.length cd, .slice S n cs, .int .i64 c, .float .f32 hub, .float .f32 tip, .float .f32 e0, .float .f32 e1, .float .f32 e2, .float .f32 e3, .float .f32 p0, .float .f32 p1, .float .f32 p2, .float .f32 p3, .float .f32 p4, .float .f32 p5, .float .f32 p6, .float .f32 p7, .int .i64 st, .float .f32 sp, .float .f32 pi, .float .f32 en, .slice X fx.length cx, .slice Y fy.length cy, .float .f32 fr, .float .f32 fd, .float .f32 fs]) := Lib.hid (K2.out.below b)
      have M3 : Hid (BlkL w3 (w.heap.size + 1) [.slice A' a'.length ca', .slice L' l'.length cl', .slice D' d'.length cd', .slice S' n' cs', .int .i64 c', .float .f32 hub', .float .f32 tip', .float .f32 e0', .float .f32 e1', .float .f32 e2', .float .f32 e3', .float .f32 q0, .float .f32 q1, .float .f32 q2, .float .f32 q3, .float .f32 q4, .float .f32 q5, .float .f32 q6, .float .f32 q7, .int .i64 st', .float .f32 sp', .float .f32 pi', .float .f32 en', .slice X' fx'.length cx', .slice Y' fy'.length cy', .float .f32 fr', .float .f32 fd', .float .f32 fs']) := Lib.hid (M2.out.below b)
      clear b
      cases t2
      · go_wp2
        go_ret
        exact ⟨by rw [HE.out]; rfl, B3.out⟩
      · skip
        go_wp2_with fail
        refine (C3 _ _ _ B3.out K3.out M3.out).out.mono ?_
        rintro e w4 ⟨rfl, b⟩
        have B4 : Hid (Below w.heap.size w w4) := Lib.hid (below_of B3.out B3.out.size b)
        have K4 : Hid (BlkL w4 w.heap.size [.slice A a.length ca, .slice L l.length cl, .slice D d.length cd, .slice S n cs, .int .i64 c, .float .f32 hub, .float .f32 tip, .float .f32 e0, .float .f32 e1, .float .f32 e2, .float .f32 e3, .float .f32 p0, .float .f32 p1, .float .f32 p2, .float .f32 p3, .float .f32 p4, .float .f32 p5, .float .f32 p6, .float .f32 p7, .int .i64 st, .float .f32 sp, .float .f32 pi, .float .f32 en, .slice X fx.length cx, .slice Y fy.length cy, .float .f32 fr, .float .f32 fd, .float .f32 fs]) := Lib.hid (K3.out.below b)
        have M4 : Hid (BlkL w4 (w.heap.size + 1) [.slice A' a'.length ca', .slice L' l'.length cl', .slice D' d'.length cd', .slice S' n' cs', .int .i64 c', .float .f32 hub', .float .f32 tip', .float .f32 e0', .float .f32 e1', .float .f32 e2', .float .f32 e3', .float .f32 q0, .float .f32 q1, .float .f32 q2, .float .f32 q3, .float .f32 q4, .float .f32 q5, .float .f32 q6, .float .f32 q7, .int .i64 st', .float .f32 sp', .float .f32 pi', .float .f32 en', .slice X' fx'.length cx', .slice Y' fy'.length cy', .float .f32 fr', .float .f32 fd', .float .f32 fs']) := Lib.hid (M3.out.below b)
        clear b
        go_wp2
        go_ret
        exact ⟨by rw [HE.out]; rfl, B4.out⟩
end Go.Proofs.Ytiiiigldpbomkaa
