/- The new desk: both sides and the law. No statement is proved here. -/
import Derived.Test.YtiiiigldpbomkaaNd1
import Derived.Test.YtiiiigldpbomkaaNd2
import Derived.Test.YtiiiigldpbomkaaRow
import Derived.Test.YtiiiigldpbomkaaMkS
import Derived.Test.YtiiiigldpbomkaaFrmK
import Derived.Test.YtiiiigldpbomkaaDsk
import Derived.Test.YtiiiigldpbomkaaDskT
import Derived.Deep.MidRow
import Derived.Deep.Cut
namespace Go.Proofs.Ytiiiigldpbomkaa
open Go Go.RowKit
theorem plt9 : pltO 9 = true := by decide +kernel
theorem row2 : rowO 2 1082130432 1065353216 1048576000 1040187392 = true := by decide +kernel
theorem marks_nilE {k n : Nat} (h : marks k n ≠ []) : n ≠ 0 := fun e => h (by subst e; rfl)
theorem SB.marks {xs : List Nat} {k B c : Nat} (h : SB (Go.Proofs.Ytiiiigldpbomkaa.marks k xs.length) B c) : SB xs B c := ⟨fun e => marks_nilE h.1 (by rw [e]; rfl), h.2⟩
theorem SRt.marks {a l d s : List Nat} {k1 k2 k3 k4 b1 b2 b3 b4 c : Nat} (h : SRt (Go.Proofs.Ytiiiigldpbomkaa.marks k1 a.length) (Go.Proofs.Ytiiiigldpbomkaa.marks k2 l.length) (Go.Proofs.Ytiiiigldpbomkaa.marks k3 d.length) (Go.Proofs.Ytiiiigldpbomkaa.marks k4 s.length) b1 b2 b3 b4 c) : SRt a l d s b1 b2 b3 b4 c := by
  rcases h with (h | h | h) | h
  · exact .inl (.inl h.marks)
  · exact .inl (.inr (.inl h.marks))
  · exact .inl (.inr (.inr h.marks))
  · exact .inr h.marks
set_option maxHeartbeats 8000000 in
theorem l_markDesk (A L D S X Y : Option Addr) (ca cl cd cs cx cy n : Nat) (c : Int) (hub tip : Nat) (e0 e1 e2 e3 q0 q1 q2 q3 q4 q5 q6 q7 : Nat) (st : Int) (sp pi en fr fd fs : Nat) (a l d s fx fy : List Nat) (b1 b2 b3 b4 g1 g2 B0 B1 k0 : Nat) (w : World) (h : OwnT w B0 A L D S b1 b2 b3 b4 a l d s) (hn : FewR a l d s n) (hf : OwnR2 w B1 X Y g1 g2 fx fy) (hfn : fx.length + fy.length ≤ 1048576) (hlt : ∀ b, SRt a l d s b1 b2 b3 b4 b → b < B1) (hk0 : k0 ≤ 1) (hsm : a.length + l.length + d.length + 3 * n ≤ 1000) (K : Int) (hK : K = (k0 : Int)) :
    Calls Try.prog 67 #[.agg #[.slice A a.length ca, .slice L l.length cl, .slice D d.length cd, .slice S n cs, .int .i64 c, .float .f32 hub, .float .f32 tip, .float .f32 e0, .float .f32 e1, .float .f32 e2, .float .f32 e3, .float .f32 q0, .float .f32 q1, .float .f32 q2, .float .f32 q3, .float .f32 q4, .float .f32 q5, .float .f32 q6, .float .f32 q7, .int .i64 st, .float .f32 sp, .float .f32 pi, .float .f32 en, .slice X fx.length cx, .slice Y fy.length cy, .float .f32 fr, .float .f32 fd, .float .f32 fs], .int .i64 K] w fun e w' => e = .returned (.int .i64 ((((k0 + a.length + l.length + d.length + 3 * n) : Nat) : Int) + (fx.length : Int) + (fy.length : Int))) ∧
      OwnT w' B0 A L D S b1 b2 b3 b4 (marks k0 a.length) (marks (k0 + a.length) l.length) (marks (k0 + a.length + l.length) d.length) (marks (k0 + a.length + l.length + d.length) s.length) ∧ OwnR2 w' B1 X Y g1 g2 (marks (k0 + a.length + l.length + d.length + 3 * n) fx.length) (marks ((k0 + a.length + l.length + d.length + 3 * n) + fx.length) fy.length) ∧ Turn w w' (fun b => SRt a l d s b1 b2 b3 b4 b ∨ SR fx fy g1 g2 b) := by
  have H := Lib.hid h; clear h
  have HN := Lib.hid hn; clear hn
  have HF := Lib.hid hf; clear hf
  have HLT := Lib.hid hlt; clear hlt
  have HFN := Lib.hid hfn; clear hfn
  subst hK
  obtain ⟨w0, hw0⟩ : ∃ x, x = w.alloc (.cells #[.slice A a.length ca, .slice L l.length cl, .slice D d.length cd, .slice S n cs, .int .i64 c, .float .f32 hub, .float .f32 tip, .float .f32 e0, .float .f32 e1, .float .f32 e2, .float .f32 e3, .float .f32 q0, .float .f32 q1, .float .f32 q2, .float .f32 q3, .float .f32 q4, .float .f32 q5, .float .f32 q6, .float .f32 q7, .int .i64 st, .float .f32 sp, .float .f32 pi, .float .f32 en, .slice X fx.length cx, .slice Y fy.length cy, .float .f32 fr, .float .f32 fd, .float .f32 fs] 102) := ⟨_, rfl⟩
  have B0' : Hid (Below w.heap.size w w0) := Lib.hid (by rw [hw0]; exact (Below.refl _ _).alloc (Nat.le_refl _) _)
  have K0 : Hid (BlkL w0 w.heap.size [.slice A a.length ca, .slice L l.length cl, .slice D d.length cd, .slice S n cs, .int .i64 c, .float .f32 hub, .float .f32 tip, .float .f32 e0, .float .f32 e1, .float .f32 e2, .float .f32 e3, .float .f32 q0, .float .f32 q1, .float .f32 q2, .float .f32 q3, .float .f32 q4, .float .f32 q5, .float .f32 q6, .float .f32 q7, .int .i64 st, .float .f32 sp, .float .f32 pi, .float .f32 en, .slice X fx.length cx, .slice Y fy.length cy, .float .f32 fr, .float .f32 fd, .float .f32 fs]) := Lib.hid (by rw [hw0]; exact blkL_at w #[.slice A a.length ca, .slice L l.length cl, .slice D d.length cd, .slice S n cs, .int .i64 c, .float .f32 hub, .float .f32 tip, .float .f32 e0, .float .f32 e1, .float .f32 e2, .float .f32 e3, .float .f32 q0, .float .f32 q1, .float .f32 q2, .float .f32 q3, .float .f32 q4, .float .f32 q5, .float .f32 q6, .float .f32 q7, .int .i64 st, .float .f32 sp, .float .f32 pi, .float .f32 en, .slice X fx.length cx, .slice Y fy.length cy, .float .f32 fr, .float .f32 fd, .float .f32 fs] _ rfl)
  have H0 := Lib.hid (H.out.below B0'.out)
  have HF0 := Lib.hid (HF.out.below B0'.out)
  go_enter Try.func67, Try.ntmps67
  go_wp2_with fail
  rw [← hw0]
  clear hw0
  have j0 := (K0.out.2 0 _ rfl).1
  have j1 := (K0.out.2 1 _ rfl).1
  have j2 := (K0.out.2 2 _ rfl).1
  have k3 := (K0.out.2 3 _ rfl).1
  have k4 := (K0.out.2 4 _ rfl).1
  have k5 := (K0.out.2 5 _ rfl).1
  have k6 := (K0.out.2 6 _ rfl).1
  go_wp2_with fail
  refine (l_markRotor A L D S b1 b2 b3 b4 B0 ca cl cd n cs k0 c hub tip a l d s _ H0.out HN.out (by omega) _ rfl).mono ?_
  rintro e w1 ⟨rfl, m1, t1⟩
  have K1 : Hid (BlkL w1 w.heap.size [.slice A a.length ca, .slice L l.length cl, .slice D d.length cd, .slice S n cs, .int .i64 c, .float .f32 hub, .float .f32 tip, .float .f32 e0, .float .f32 e1, .float .f32 e2, .float .f32 e3, .float .f32 q0, .float .f32 q1, .float .f32 q2, .float .f32 q3, .float .f32 q4, .float .f32 q5, .float .f32 q6, .float .f32 q7, .int .i64 st, .float .f32 sp, .float .f32 pi, .float .f32 en, .slice X fx.length cx, .slice Y fy.length cy, .float .f32 fr, .float .f32 fd, .float .f32 fs]) := Lib.hid (K0.out.turnS t1 (fun hh => by have h1 := H.out.bd hh; omega))
  have M1 := Lib.hid m1
  have HF1 : Hid (OwnR2 w1 B1 X Y g1 g2 fx fy) := Lib.hid (HF0.out.turnS t1 (fun c hc hh => by have h1 := HLT.out _ hh; have h2 := HF.out.bd hc; omega))
  have T1 : Hid (Turn w w1 (fun b => SRt a l d s b1 b2 b3 b4 b ∨ SR fx fy g1 g2 b)) := Lib.hid ((Turn.of_below B0'.out _).trans (t1.mono (fun b hb => .inl hb)))
  clear m1 t1 K0
  have k23 := (K1.out.2 23 _ rfl).1
  have k24 := (K1.out.2 24 _ rfl).1
  have k25 := (K1.out.2 25 _ rfl).1
  have k26 := (K1.out.2 26 _ rfl).1
  have k27 := (K1.out.2 27 _ rfl).1
  have hi : ((k0 : Int) + (a.length : Int) + (l.length : Int) + (d.length : Int) + 3 * (n : Int)) = (((k0 + a.length + l.length + d.length + 3 * n) : Nat) : Int) := by omega
  rw [hi]
  clear hi
  go_wp2_with fail
  refine (l_markFarm X Y g1 g2 B1 cx cy (k0 + a.length + l.length + d.length + 3 * n) fx fy fr fd fs _ HF1.out HFN.out (by omega) _ rfl).mono ?_
  rintro e w2 ⟨rfl, m2, t2⟩
  have M2 : Hid (OwnT w2 B0 A L D S b1 b2 b3 b4 _ _ _ _) := Lib.hid (M1.out.turnS t2 (fun c hc hh => by
    have h2 := HF.out.bd hh
    have h1 := HLT.out c (SRt.marks hc)
    omega))
  have F2 := Lib.hid m2
  have T2 : Hid (Turn w w2 _) := Lib.hid (T1.out.trans (t2.mono (fun b hb => .inr hb)))
  clear m2 t2
  go_wp2
  go_ret
  exact ⟨rfl, M2.out, F2.out, T2.out⟩
set_option maxHeartbeats 8000000 in
theorem l_heldDesk (A L D S X Y : Option Addr) (ca cl cd cs cx cy n : Nat) (c : Int) (hub tip : Nat) (e0 e1 e2 e3 q0 q1 q2 q3 q4 q5 q6 q7 : Nat) (st : Int) (sp pi en fr fd fs : Nat) (na nl nd nx ny b1 b2 b3 b4 g1 g2 B0 B1 k0 : Nat) (w : World) (h : OwnT w B0 A L D S b1 b2 b3 b4 (marks k0 na) (marks (k0 + na) nl) (marks (k0 + na + nl) nd) (marks (k0 + na + nl + nd) (n * 3))) (hn : na + nl + nd + 3 * n ≤ 1000) (hf : OwnR2 w B1 X Y g1 g2 (marks (k0 + na + nl + nd + 3 * n) nx) (marks ((k0 + na + nl + nd + 3 * n) + nx) ny)) (hfn : nx + ny ≤ 1000) (hk0 : k0 ≤ 1) (K : Int) (hK : K = (k0 : Int)) :
    Calls Try.prog 68 #[.agg #[.slice A na ca, .slice L nl cl, .slice D nd cd, .slice S n cs, .int .i64 c, .float .f32 hub, .float .f32 tip, .float .f32 e0, .float .f32 e1, .float .f32 e2, .float .f32 e3, .float .f32 q0, .float .f32 q1, .float .f32 q2, .float .f32 q3, .float .f32 q4, .float .f32 q5, .float .f32 q6, .float .f32 q7, .int .i64 st, .float .f32 sp, .float .f32 pi, .float .f32 en, .slice X nx cx, .slice Y ny cy, .float .f32 fr, .float .f32 fd, .float .f32 fs], .int .i64 K] w fun e w' => e = .returned (.int .i64 ((((k0 + na + nl + nd + 3 * n) : Nat) : Int) + (nx : Int) + (ny : Int))) ∧ Below w.heap.size w w' := by
  have H := Lib.hid h; clear h
  have HF := Lib.hid hf; clear hf
  subst hK
  obtain ⟨w0, hw0⟩ : ∃ x, x = w.alloc (.cells #[.slice A na ca, .slice L nl cl, .slice D nd cd, .slice S n cs, .int .i64 c, .float .f32 hub, .float .f32 tip, .float .f32 e0, .float .f32 e1, .float .f32 e2, .float .f32 e3, .float .f32 q0, .float .f32 q1, .float .f32 q2, .float .f32 q3, .float .f32 q4, .float .f32 q5, .float .f32 q6, .float .f32 q7, .int .i64 st, .float .f32 sp, .float .f32 pi, .float .f32 en, .slice X nx cx, .slice Y ny cy, .float .f32 fr, .float .f32 fd, .float .f32 fs] 102) := ⟨_, rfl⟩
  have B0' : Hid (Below w.heap.size w w0) := Lib.hid (by rw [hw0]; exact (Below.refl _ _).alloc (Nat.le_refl _) _)
  have K0 : Hid (BlkL w0 w.heap.size [.slice A na ca, .slice L nl cl, .slice D nd cd, .slice S n cs, .int .i64 c, .float .f32 hub, .float .f32 tip, .float .f32 e0, .float .f32 e1, .float .f32 e2, .float .f32 e3, .float .f32 q0, .float .f32 q1, .float .f32 q2, .float .f32 q3, .float .f32 q4, .float .f32 q5, .float .f32 q6, .float .f32 q7, .int .i64 st, .float .f32 sp, .float .f32 pi, .float .f32 en, .slice X nx cx, .slice Y ny cy, .float .f32 fr, .float .f32 fd, .float .f32 fs]) := Lib.hid (by rw [hw0]; exact blkL_at w #[.slice A na ca, .slice L nl cl, .slice D nd cd, .slice S n cs, .int .i64 c, .float .f32 hub, .float .f32 tip, .float .f32 e0, .float .f32 e1, .float .f32 e2, .float .f32 e3, .float .f32 q0, .float .f32 q1, .float .f32 q2, .float .f32 q3, .float .f32 q4, .float .f32 q5, .float .f32 q6, .float .f32 q7, .int .i64 st, .float .f32 sp, .float .f32 pi, .float .f32 en, .slice X nx cx, .slice Y ny cy, .float .f32 fr, .float .f32 fd, .float .f32 fs] _ rfl)
  go_enter Try.func68, Try.ntmps68
  go_wp2_with fail
  rw [← hw0]
  clear hw0
  have j0 := (K0.out.2 0 _ rfl).1
  have j1 := (K0.out.2 1 _ rfl).1
  have j2 := (K0.out.2 2 _ rfl).1
  have k3 := (K0.out.2 3 _ rfl).1
  have k4 := (K0.out.2 4 _ rfl).1
  have k5 := (K0.out.2 5 _ rfl).1
  have k6 := (K0.out.2 6 _ rfl).1
  go_wp2_with fail
  refine (l_heldRotor A L D S b1 b2 b3 b4 B0 ca cl cd n cs k0 na nl nd c hub tip _ (H.out.below B0'.out) (by omega) (by omega) _ rfl).mono ?_
  rintro e w1 ⟨rfl, b⟩
  have K1 : Hid (BlkL w1 w.heap.size [.slice A na ca, .slice L nl cl, .slice D nd cd, .slice S n cs, .int .i64 c, .float .f32 hub, .float .f32 tip, .float .f32 e0, .float .f32 e1, .float .f32 e2, .float .f32 e3, .float .f32 q0, .float .f32 q1, .float .f32 q2, .float .f32 q3, .float .f32 q4, .float .f32 q5, .float .f32 q6, .float .f32 q7, .int .i64 st, .float .f32 sp, .float .f32 pi, .float .f32 en, .slice X nx cx, .slice Y ny cy, .float .f32 fr, .float .f32 fd, .float .f32 fs]) := Lib.hid (K0.out.below b)
  have B1' : Hid (Below w.heap.size w w1) := Lib.hid (below_of B0'.out B0'.out.size b)
  clear b K0
  have k23 := (K1.out.2 23 _ rfl).1
  have k24 := (K1.out.2 24 _ rfl).1
  have k25 := (K1.out.2 25 _ rfl).1
  have k26 := (K1.out.2 26 _ rfl).1
  have k27 := (K1.out.2 27 _ rfl).1
  have hi : ((k0 : Int) + (na : Int) + (nl : Int) + (nd : Int) + 3 * (n : Int)) = (((k0 + na + nl + nd + 3 * n) : Nat) : Int) := by omega
  rw [hi]
  clear hi
  have hge : (0 : Int) ≤ (((k0 + na + nl + nd + 3 * n) : Nat) : Int) := by omega
  go_wp2_with fail
  refine (l_heldFarm X Y g1 g2 B1 cx cy (k0 + na + nl + nd + 3 * n) nx ny fr fd fs _ (HF.out.below B1'.out) (by omega) (by omega) _ rfl).mono ?_
  rintro e w2 ⟨rfl, b⟩
  have B2 : Hid (Below w.heap.size w w2) := Lib.hid (below_of B1'.out B1'.out.size b)
  clear b
  have hge2 : (0 : Int) ≤ (((k0 + na + nl + nd + 3 * n) : Nat) : Int) + (nx : Int) + (ny : Int) := by omega
  go_wp2
  go_ret
  exact ⟨rfl, B2.out⟩
def ndO : Bool := evO (pltA 9) (pltB 9) (pltE 9) 3 4 1065353216 1091567616 1056964608 1031798784
def ndA : List Nat := gLp ndO (pltA 9)
def ndB : List Nat := gLp ndO (pltB 9)
def ndE : List Nat := gLp ndO (pltE 9)
def ndS : List Nat := gLp ndO (evS 4 1065353216 1091567616 1056964608 1031798784)
def ndN : Nat := gN ndO 4
def ndC : Int := gC ndO 3
def ndH : Nat := gN ndO 1065353216
def ndT : Nat := gN ndO 1091567616
def ndV : Bool := plantV 1065353216 1048576000 1073741824 1056964608 1073741824 1065353216 1082130432 1056964608
def nq0 : Nat := sel ndV 1065353216
def nq1 : Nat := sel ndV 1048576000
def nq2 : Nat := sel ndV 1073741824
def nq3 : Nat := sel ndV 1056964608
def nq4 : Nat := sel ndV 1073741824
def nq5 : Nat := sel ndV 1065353216
def nq6 : Nat := sel ndV 1082130432
def nq7 : Nat := sel ndV 1056964608
def nst : Int := selI ndV 0
def nsp : Nat := sel ndV 0
def npi : Nat := sel ndV 1065353216
def nen : Nat := sel ndV 0
def ndX : List Nat := rowX 1082130432 2
def ndY : List Nat := rowY 2
theorem rngN {w : World} {B : Nat} {vs : List Value} (h : BlkL w B vs) : w.rangeAt B 0 vs := fun j v hj => by rw [Nat.zero_add]; exact (h.2 j v hj).1
theorem blkL_setCellsN {w : World} {B : Nat} {us vs : List Value} (h : BlkL w B us) (hl : us.length = vs.length) : BlkL (w.setCells B 0 vs) B vs := by
  have at_ : ∀ j, j < vs.length → ∃ v, us[j]? = some v := fun j hj => ⟨_, List.getElem?_eq_getElem (by omega)⟩
  have ht : w.there B 0 vs.length := fun j hj => by
    obtain ⟨v, hv⟩ := at_ j hj
    rw [Nat.zero_add]
    exact ⟨by rw [(h.2 j v hv).1]; rfl, (h.2 j v hv).2⟩
  refine ⟨setCells_keep (Q := fun W => B < W.heap.size) (fun W j v h => by simpa [World.setCell] using h) _ _ _ h.1, fun j v hj => ⟨?_, ?_⟩⟩
  · have := World.rangeAt_setCells_same w B 0 vs ht j v hj
    rwa [Nat.zero_add] at this
  · obtain ⟨u, hu⟩ := at_ j (List.getElem?_eq_some_iff.1 hj).1
    exact setCells_keep (Q := fun W => W.frozen? ⟨B, j, none⟩ = false) (fun W i u h => by rw [World.frozen?_setCell]; exact h) _ _ _ (h.2 j u hu).2
/-- what NewDesk tells, on both sides -/
def NdPost (w : World) (e : Ending) (w' : World) : Prop := ∃ (R1 R2 R3 R4 X Y : Option Addr) (c1 c2 c3 c4 cx cy g1 g2 g3 g4 gx gy B1 : Nat), e = .returned (.agg #[.slice R1 ndA.length c1, .slice R2 ndB.length c2, .slice R3 ndE.length c3, .slice R4 ndN c4, .int .i64 ndC, .float .f32 ndH, .float .f32 ndT, .float .f32 1065353216, .float .f32 1092616192, .float .f32 1090519040, .float .f32 1048576000, .float .f32 nq0, .float .f32 nq1, .float .f32 nq2, .float .f32 nq3, .float .f32 nq4, .float .f32 nq5, .float .f32 nq6, .float .f32 nq7, .int .i64 nst, .float .f32 nsp, .float .f32 npi, .float .f32 nen, .slice X ndX.length cx, .slice Y ndY.length cy, .float .f32 1065353216, .float .f32 1048576000, .float .f32 1040187392]) ∧ OwnT w' w.heap.size R1 R2 R3 R4 g1 g2 g3 g4 ndA ndB ndE ndS ∧ OwnR2 w' B1 X Y gx gy ndX ndY ∧ w.heap.size ≤ B1 ∧ (∀ b, SRt ndA ndB ndE ndS g1 g2 g3 g4 b → b < B1) ∧ Below w.heap.size w w'
theorem nd_few : FewR ndA ndB ndE ndS ndN := ev_few
theorem plt9_few : Few (pltA 9) (pltB 9) (pltE 9) := by unfold Few; rw [pltA_length, pltB_length, pltE_length]; omega
theorem i_Plate9 (w : World) : Calls Try.prog 150 #[.int .i64 9] w fun e w' => ∃ (R1 R2 R3 : Option Addr) (d1 d2 d3 h1 h2 h3 : Nat), e = .returned (.tuple #[.agg #[.slice R1 (pltA 9).length d1, .slice R2 (pltB 9).length d2, .slice R3 (pltE 9).length d3], .bool true]) ∧ OwnQ w' w.heap.size R1 R2 R3 h1 h2 h3 (pltA 9) (pltB 9) (pltE 9) ∧ Below w.heap.size w w' := by
  have h := i_PlateProfile 9 w
  rw [plt9] at h
  exact h
theorem i_Row2 (w : World) : Calls Try.prog 152 #[.int .i64 2, .float .f32 1082130432, .float .f32 1065353216, .float .f32 1048576000, .float .f32 1040187392] w fun e w' => ∃ (X Y : Option Addr) (cx cy gx gy : Nat), e = .returned (.tuple #[.agg #[.slice X ndX.length cx, .slice Y ndY.length cy, .float .f32 1065353216, .float .f32 1048576000, .float .f32 1040187392], .bool true]) ∧ OwnR2 w' w.heap.size X Y gx gy ndX ndY ∧ Below w.heap.size w w' := by
  have h := i_RowFarm 2 1082130432 1065353216 1048576000 1040187392 w (by decide)
  rw [row2] at h
  exact h
theorem i_Even9 (A L D : Option Addr) (ca cl cd : Nat) (w : World) (h : Pf w A L D (pltA 9) (pltB 9) (pltE 9)) : Calls Try.prog 18 #[.agg #[.slice A (pltA 9).length ca, .slice L (pltB 9).length cl, .slice D (pltE 9).length cd], .int .i64 3, .int .i64 4, .float .f32 1065353216, .float .f32 1091567616, .float .f32 1056964608, .float .f32 1031798784] w fun e w' => ∃ (R1 R2 R3 R4 : Option Addr) (c1 c2 c3 c4 g1 g2 g3 g4 : Nat), e = .returned (.tuple #[.agg #[.slice R1 ndA.length c1, .slice R2 ndB.length c2, .slice R3 ndE.length c3, .slice R4 ndN c4, .int .i64 ndC, .float .f32 ndH, .float .f32 ndT], .bool ndO]) ∧ OwnT w' w.heap.size R1 R2 R3 R4 g1 g2 g3 g4 ndA ndB ndE ndS ∧ Below w.heap.size w w' :=
  i_EvenRotor A L D ca cl cd (pltA 9) (pltB 9) (pltE 9) 3 4 1065353216 1091567616 1056964608 1031798784 w h plt9_few
theorem i_Drive0 (w : World) : Calls Try.prog 151 #[.agg #[.float .f32 1065353216, .float .f32 1048576000, .float .f32 1073741824, .float .f32 1056964608, .float .f32 1073741824, .float .f32 1065353216, .float .f32 1082130432, .float .f32 1056964608]] w fun e w' => e = .returned (.tuple #[.agg #[.float .f32 nq0, .float .f32 nq1, .float .f32 nq2, .float .f32 nq3, .float .f32 nq4, .float .f32 nq5, .float .f32 nq6, .float .f32 nq7, .int .i64 nst, .float .f32 nsp, .float .f32 npi, .float .f32 nen], .bool ndV]) ∧ Below w.heap.size w w' := i_NewDrive 1065353216 1048576000 1073741824 1056964608 1073741824 1065353216 1082130432 1056964608 w
theorem s_Even9 (A L D : Option Addr) (ca cl cd : Nat) (w : World) (h : Pf w A L D (pltA 9) (pltB 9) (pltE 9)) : Calls Try.prog 16 #[.agg #[.slice A (pltA 9).length ca, .slice L (pltB 9).length cl, .slice D (pltE 9).length cd], .int .i64 3, .int .i64 4, .float .f32 1065353216, .float .f32 1091567616, .float .f32 1056964608, .float .f32 1031798784] w fun e w' => ∃ (R1 R2 R3 R4 : Option Addr) (c1 c2 c3 c4 g1 g2 g3 g4 : Nat), e = .returned (.tuple #[.agg #[.slice R1 ndA.length c1, .slice R2 ndB.length c2, .slice R3 ndE.length c3, .slice R4 ndN c4, .int .i64 ndC, .float .f32 ndH, .float .f32 ndT], .bool ndO]) ∧ OwnT w' w.heap.size R1 R2 R3 R4 g1 g2 g3 g4 ndA ndB ndE ndS ∧ Below w.heap.size w w' :=
  s_EvenRotor A L D ca cl cd (pltA 9) (pltB 9) (pltE 9) 3 4 1065353216 1091567616 1056964608 1031798784 w h plt9_few
theorem s_Drive0 (w : World) : Calls Try.prog 148 #[.agg #[.float .f32 1065353216, .float .f32 1048576000, .float .f32 1073741824, .float .f32 1056964608, .float .f32 1073741824, .float .f32 1065353216, .float .f32 1082130432, .float .f32 1056964608]] w fun e w' => e = .returned (.tuple #[.agg #[.float .f32 nq0, .float .f32 nq1, .float .f32 nq2, .float .f32 nq3, .float .f32 nq4, .float .f32 nq5, .float .f32 nq6, .float .f32 nq7, .int .i64 nst, .float .f32 nsp, .float .f32 npi, .float .f32 nen], .bool ndV]) ∧ Below w.heap.size w w' := s_NewDrive 1065353216 1048576000 1073741824 1056964608 1073741824 1065353216 1082130432 1056964608 w
set_option maxHeartbeats 4000000 in
theorem l_eqAir (d h s k : Nat) (w : World) :
    Calls Try.prog 145 #[.agg #[.float .f32 d, .float .f32 h, .float .f32 s, .float .f32 k], .agg #[.float .f32 d, .float .f32 h, .float .f32 s, .float .f32 k]] w fun e w' => e = .returned (.bool true) ∧ Below w.heap.size w w' := by
  have HB : ∀ o1 o2, Hid (Below w.heap.size w ((w.alloc o1).alloc o2)) := fun _ _ => Lib.hid (((Below.refl _ _).alloc (Nat.le_refl _) _).alloc (by simp) _)
  go_enter Try.func145, Try.ntmps145
  go_wp2_with fail
  refine (sameFloat_yes _ _ _ (by rw [canon_wideV, canon_wideV])).mono ?_
  rintro e w' ⟨m0, rfl, rfl⟩
  go_wp2_with fail
  refine (sameFloat_yes _ _ _ (by rw [canon_wideV, canon_wideV])).mono ?_
  rintro e w' ⟨m1, rfl, rfl⟩
  go_wp2_with fail
  refine (sameFloat_yes _ _ _ (by rw [canon_wideV, canon_wideV])).mono ?_
  rintro e w' ⟨m2, rfl, rfl⟩
  go_wp2_with fail
  refine (sameFloat_yes _ _ _ (by rw [canon_wideV, canon_wideV])).mono ?_
  rintro e w' ⟨m3, rfl, rfl⟩
  go_wp2
  go_ret
  exact ⟨rfl, by repeat (first | exact (HB _ _).out | refine below_draws ?_ _)⟩
set_option maxHeartbeats 8000000 in
theorem l_eqDesk (A1 L1 D1 S1 A2 L2 D2 S2 : Option Addr) (n : Nat) (c : Int) (hub tip : Nat) (a l d s : List Nat) (e0 e1 e2 e3 : Nat) (p0 p1 p2 p3 p4 p5 p6 p7 : Nat) (st : Int) (sp pi en : Nat) (X1 Y1 X2 Y2 : Option Addr) (fx fy : List Nat) (fr fd fs : Nat) (w : World) (h1 : Rt w A1 L1 D1 S1 a l d s) (h2 : Rt w A2 L2 D2 S2 a l d s) (hn : FewR a l d s n) (f1 : Rs w X1 Y1 fx fy) (f2 : Rs w X2 Y2 fx fy) (hf : FewS fx fy) :
    Calls Try.prog 64 #[.agg #[.slice A1 a.length a.length, .slice L1 l.length l.length, .slice D1 d.length d.length, .slice S1 n n, .int .i64 c, .float .f32 hub, .float .f32 tip, .float .f32 e0, .float .f32 e1, .float .f32 e2, .float .f32 e3, .float .f32 p0, .float .f32 p1, .float .f32 p2, .float .f32 p3, .float .f32 p4, .float .f32 p5, .float .f32 p6, .float .f32 p7, .int .i64 st, .float .f32 sp, .float .f32 pi, .float .f32 en, .slice X1 fx.length fx.length, .slice Y1 fy.length fy.length, .float .f32 fr, .float .f32 fd, .float .f32 fs], .agg #[.slice A2 a.length a.length, .slice L2 l.length l.length, .slice D2 d.length d.length, .slice S2 n n, .int .i64 c, .float .f32 hub, .float .f32 tip, .float .f32 e0, .float .f32 e1, .float .f32 e2, .float .f32 e3, .float .f32 p0, .float .f32 p1, .float .f32 p2, .float .f32 p3, .float .f32 p4, .float .f32 p5, .float .f32 p6, .float .f32 p7, .int .i64 st, .float .f32 sp, .float .f32 pi, .float .f32 en, .slice X2 fx.length fx.length, .slice Y2 fy.length fy.length, .float .f32 fr, .float .f32 fd, .float .f32 fs]] w fun e w' => e = .returned (.bool true) ∧ Below w.heap.size w w' := by
  have H1 := Lib.hid h1; clear h1
  have H2 := Lib.hid h2; clear h2
  have HN := Lib.hid hn; clear hn
  have F1 := Lib.hid f1; clear f1
  have F2 := Lib.hid f2; clear f2
  have HF := Lib.hid hf; clear hf
  obtain ⟨w0, hw0⟩ : ∃ x, x = (w.alloc (.cells #[.slice A1 a.length a.length, .slice L1 l.length l.length, .slice D1 d.length d.length, .slice S1 n n, .int .i64 c, .float .f32 hub, .float .f32 tip, .float .f32 e0, .float .f32 e1, .float .f32 e2, .float .f32 e3, .float .f32 p0, .float .f32 p1, .float .f32 p2, .float .f32 p3, .float .f32 p4, .float .f32 p5, .float .f32 p6, .float .f32 p7, .int .i64 st, .float .f32 sp, .float .f32 pi, .float .f32 en, .slice X1 fx.length fx.length, .slice Y1 fy.length fy.length, .float .f32 fr, .float .f32 fd, .float .f32 fs] 102)).alloc (.cells #[.slice A2 a.length a.length, .slice L2 l.length l.length, .slice D2 d.length d.length, .slice S2 n n, .int .i64 c, .float .f32 hub, .float .f32 tip, .float .f32 e0, .float .f32 e1, .float .f32 e2, .float .f32 e3, .float .f32 p0, .float .f32 p1, .float .f32 p2, .float .f32 p3, .float .f32 p4, .float .f32 p5, .float .f32 p6, .float .f32 p7, .int .i64 st, .float .f32 sp, .float .f32 pi, .float .f32 en, .slice X2 fx.length fx.length, .slice Y2 fy.length fy.length, .float .f32 fr, .float .f32 fd, .float .f32 fs] 102) := ⟨_, rfl⟩
  have B0 : Hid (Below w.heap.size w w0) := Lib.hid (by rw [hw0]; exact ((Below.refl _ _).alloc (Nat.le_refl _) _).alloc (by simp) _)
  have K0 : Hid (BlkL w0 w.heap.size [.slice A1 a.length a.length, .slice L1 l.length l.length, .slice D1 d.length d.length, .slice S1 n n, .int .i64 c, .float .f32 hub, .float .f32 tip, .float .f32 e0, .float .f32 e1, .float .f32 e2, .float .f32 e3, .float .f32 p0, .float .f32 p1, .float .f32 p2, .float .f32 p3, .float .f32 p4, .float .f32 p5, .float .f32 p6, .float .f32 p7, .int .i64 st, .float .f32 sp, .float .f32 pi, .float .f32 en, .slice X1 fx.length fx.length, .slice Y1 fy.length fy.length, .float .f32 fr, .float .f32 fd, .float .f32 fs]) := Lib.hid (by rw [hw0]; exact (blkL_at w #[.slice A1 a.length a.length, .slice L1 l.length l.length, .slice D1 d.length d.length, .slice S1 n n, .int .i64 c, .float .f32 hub, .float .f32 tip, .float .f32 e0, .float .f32 e1, .float .f32 e2, .float .f32 e3, .float .f32 p0, .float .f32 p1, .float .f32 p2, .float .f32 p3, .float .f32 p4, .float .f32 p5, .float .f32 p6, .float .f32 p7, .int .i64 st, .float .f32 sp, .float .f32 pi, .float .f32 en, .slice X1 fx.length fx.length, .slice Y1 fy.length fy.length, .float .f32 fr, .float .f32 fd, .float .f32 fs] _ rfl).alloc _)
  have M0 : Hid (BlkL w0 (w.heap.size + 1) [.slice A2 a.length a.length, .slice L2 l.length l.length, .slice D2 d.length d.length, .slice S2 n n, .int .i64 c, .float .f32 hub, .float .f32 tip, .float .f32 e0, .float .f32 e1, .float .f32 e2, .float .f32 e3, .float .f32 p0, .float .f32 p1, .float .f32 p2, .float .f32 p3, .float .f32 p4, .float .f32 p5, .float .f32 p6, .float .f32 p7, .int .i64 st, .float .f32 sp, .float .f32 pi, .float .f32 en, .slice X2 fx.length fx.length, .slice Y2 fy.length fy.length, .float .f32 fr, .float .f32 fd, .float .f32 fs]) := Lib.hid (by rw [hw0]; exact blkL_at (w.alloc _) #[.slice A2 a.length a.length, .slice L2 l.length l.length, .slice D2 d.length d.length, .slice S2 n n, .int .i64 c, .float .f32 hub, .float .f32 tip, .float .f32 e0, .float .f32 e1, .float .f32 e2, .float .f32 e3, .float .f32 p0, .float .f32 p1, .float .f32 p2, .float .f32 p3, .float .f32 p4, .float .f32 p5, .float .f32 p6, .float .f32 p7, .int .i64 st, .float .f32 sp, .float .f32 pi, .float .f32 en, .slice X2 fx.length fx.length, .slice Y2 fy.length fy.length, .float .f32 fr, .float .f32 fd, .float .f32 fs] _ (by simp))
  go_enter Try.func64, Try.ntmps64
  go_wp2_with fail
  rw [← hw0]
  clear hw0
  have k0 := (K0.out.2 0 _ rfl).1
  have k1 := (K0.out.2 1 _ rfl).1
  have k2 := (K0.out.2 2 _ rfl).1
  have k3 := (K0.out.2 3 _ rfl).1
  have k4 := (K0.out.2 4 _ rfl).1
  have k5 := (K0.out.2 5 _ rfl).1
  have k6 := (K0.out.2 6 _ rfl).1
  have m0 := (M0.out.2 0 _ rfl).1
  have m1 := (M0.out.2 1 _ rfl).1
  have m2 := (M0.out.2 2 _ rfl).1
  have m3 := (M0.out.2 3 _ rfl).1
  have m4 := (M0.out.2 4 _ rfl).1
  have m5 := (M0.out.2 5 _ rfl).1
  have m6 := (M0.out.2 6 _ rfl).1
  go_wp2_with fail
  refine (l_eqRotor A1 L1 D1 S1 A2 L2 D2 S2 _ _ _ _ _ _ n _ _ c hub tip a l d s _ (H1.out.below B0.out) (H2.out.below B0.out) HN.out).mono ?_
  rintro e w1 ⟨rfl, b⟩
  have B1 : Hid (Below w.heap.size w w1) := Lib.hid (below_of B0.out B0.out.size b)
  have K1 : Hid (BlkL w1 w.heap.size [.slice A1 a.length a.length, .slice L1 l.length l.length, .slice D1 d.length d.length, .slice S1 n n, .int .i64 c, .float .f32 hub, .float .f32 tip, .float .f32 e0, .float .f32 e1, .float .f32 e2, .float .f32 e3, .float .f32 p0, .float .f32 p1, .float .f32 p2, .float .f32 p3, .float .f32 p4, .float .f32 p5, .float .f32 p6, .float .f32 p7, .int .i64 st, .float .f32 sp, .float .f32 pi, .float .f32 en, .slice X1 fx.length fx.length, .slice Y1 fy.length fy.length, .float .f32 fr, .float .f32 fd, .float .f32 fs]) := Lib.hid (K0.out.below b)
  have M1 : Hid (BlkL w1 (w.heap.size + 1) [.slice A2 a.length a.length, .slice L2 l.length l.length, .slice D2 d.length d.length, .slice S2 n n, .int .i64 c, .float .f32 hub, .float .f32 tip, .float .f32 e0, .float .f32 e1, .float .f32 e2, .float .f32 e3, .float .f32 p0, .float .f32 p1, .float .f32 p2, .float .f32 p3, .float .f32 p4, .float .f32 p5, .float .f32 p6, .float .f32 p7, .int .i64 st, .float .f32 sp, .float .f32 pi, .float .f32 en, .slice X2 fx.length fx.length, .slice Y2 fy.length fy.length, .float .f32 fr, .float .f32 fd, .float .f32 fs]) := Lib.hid (M0.out.below b)
  clear b K0 M0
  clear k0 m0 k1 m1 k2 m2 k3 m3 k4 m4 k5 m5 k6 m6
  have k7 := (K1.out.2 7 _ rfl).1
  have k8 := (K1.out.2 8 _ rfl).1
  have k9 := (K1.out.2 9 _ rfl).1
  have k10 := (K1.out.2 10 _ rfl).1
  have m7 := (M1.out.2 7 _ rfl).1
  have m8 := (M1.out.2 8 _ rfl).1
  have m9 := (M1.out.2 9 _ rfl).1
  have m10 := (M1.out.2 10 _ rfl).1
  go_wp2_with fail
  refine (l_eqAir e0 e1 e2 e3 _).mono ?_
  rintro e w2 ⟨rfl, b⟩
  have B2 : Hid (Below w.heap.size w w2) := Lib.hid (below_of B1.out B1.out.size b)
  have K2 : Hid (BlkL w2 w.heap.size [.slice A1 a.length a.length, .slice L1 l.length l.length, .slice D1 d.length d.length, .slice S1 n n, .int .i64 c, .float .f32 hub, .float .f32 tip, .float .f32 e0, .float .f32 e1, .float .f32 e2, .float .f32 e3, .float .f32 p0, .float .f32 p1, .float .f32 p2, .float .f32 p3, .float .f32 p4, .float .f32 p5, .float .f32 p6, .float .f32 p7, .int .i64 st, .float .f32 sp, .float .f32 pi, .float .f32 en, .slice X1 fx.length fx.length, .slice Y1 fy.length fy.length, .float .f32 fr, .float .f32 fd, .float .f32 fs]) := Lib.hid (K1.out.below b)
  have M2 : Hid (BlkL w2 (w.heap.size + 1) [.slice A2 a.length a.length, .slice L2 l.length l.length, .slice D2 d.length d.length, .slice S2 n n, .int .i64 c, .float .f32 hub, .float .f32 tip, .float .f32 e0, .float .f32 e1, .float .f32 e2, .float .f32 e3, .float .f32 p0, .float .f32 p1, .float .f32 p2, .float .f32 p3, .float .f32 p4, .float .f32 p5, .float .f32 p6, .float .f32 p7, .int .i64 st, .float .f32 sp, .float .f32 pi, .float .f32 en, .slice X2 fx.length fx.length, .slice Y2 fy.length fy.length, .float .f32 fr, .float .f32 fd, .float .f32 fs]) := Lib.hid (M1.out.below b)
  clear b K1 M1
  clear k7 m7 k8 m8 k9 m9 k10 m10
  have k11 := (K2.out.2 11 _ rfl).1
  have k12 := (K2.out.2 12 _ rfl).1
  have k13 := (K2.out.2 13 _ rfl).1
  have k14 := (K2.out.2 14 _ rfl).1
  have k15 := (K2.out.2 15 _ rfl).1
  have k16 := (K2.out.2 16 _ rfl).1
  have k17 := (K2.out.2 17 _ rfl).1
  have k18 := (K2.out.2 18 _ rfl).1
  have k19 := (K2.out.2 19 _ rfl).1
  have k20 := (K2.out.2 20 _ rfl).1
  have k21 := (K2.out.2 21 _ rfl).1
  have k22 := (K2.out.2 22 _ rfl).1
  have m11 := (M2.out.2 11 _ rfl).1
  have m12 := (M2.out.2 12 _ rfl).1
  have m13 := (M2.out.2 13 _ rfl).1
  have m14 := (M2.out.2 14 _ rfl).1
  have m15 := (M2.out.2 15 _ rfl).1
  have m16 := (M2.out.2 16 _ rfl).1
  have m17 := (M2.out.2 17 _ rfl).1
  have m18 := (M2.out.2 18 _ rfl).1
  have m19 := (M2.out.2 19 _ rfl).1
  have m20 := (M2.out.2 20 _ rfl).1
  have m21 := (M2.out.2 21 _ rfl).1
  have m22 := (M2.out.2 22 _ rfl).1
  go_wp2_with fail
  refine (l_eqDrive p0 p1 p2 p3 p4 p5 p6 p7 st sp pi en p0 p1 p2 p3 p4 p5 p6 p7 st sp pi en _ ⟨rfl, rfl, rfl, rfl, rfl, rfl, rfl, rfl⟩ rfl ⟨rfl, rfl, rfl⟩).mono ?_
  rintro e w3 ⟨rfl, b⟩
  have B3 : Hid (Below w.heap.size w w3) := Lib.hid (below_of B2.out B2.out.size b)
  have K3 : Hid (BlkL w3 w.heap.size [.slice A1 a.length a.length, .slice L1 l.length l.length, .slice D1 d.length d.length, .slice S1 n n, .int .i64 c, .float .f32 hub, .float .f32 tip, .float .f32 e0, .float .f32 e1, .float .f32 e2, .float .f32 e3, .float .f32 p0, .float .f32 p1, .float .f32 p2, .float .f32 p3, .float .f32 p4, .float .f32 p5, .float .f32 p6, .float .f32 p7, .int .i64 st, .float .f32 sp, .float .f32 pi, .float .f32 en, .slice X1 fx.length fx.length, .slice Y1 fy.length fy.length, .float .f32 fr, .float .f32 fd, .float .f32 fs]) := Lib.hid (K2.out.below b)
  have M3 : Hid (BlkL w3 (w.heap.size + 1) [.slice A2 a.length a.length, .slice L2 l.length l.length, .slice D2 d.length d.length, .slice S2 n n, .int .i64 c, .float .f32 hub, .float .f32 tip, .float .f32 e0, .float .f32 e1, .float .f32 e2, .float .f32 e3, .float .f32 p0, .float .f32 p1, .float .f32 p2, .float .f32 p3, .float .f32 p4, .float .f32 p5, .float .f32 p6, .float .f32 p7, .int .i64 st, .float .f32 sp, .float .f32 pi, .float .f32 en, .slice X2 fx.length fx.length, .slice Y2 fy.length fy.length, .float .f32 fr, .float .f32 fd, .float .f32 fs]) := Lib.hid (M2.out.below b)
  clear b K2 M2
  clear k11 m11 k12 m12 k13 m13 k14 m14 k15 m15 k16 m16 k17 m17 k18 m18 k19 m19 k20 m20 k21 m21 k22 m22
  have k23 := (K3.out.2 23 _ rfl).1
  have k24 := (K3.out.2 24 _ rfl).1
  have k25 := (K3.out.2 25 _ rfl).1
  have k26 := (K3.out.2 26 _ rfl).1
  have k27 := (K3.out.2 27 _ rfl).1
  have m23 := (M3.out.2 23 _ rfl).1
  have m24 := (M3.out.2 24 _ rfl).1
  have m25 := (M3.out.2 25 _ rfl).1
  have m26 := (M3.out.2 26 _ rfl).1
  have m27 := (M3.out.2 27 _ rfl).1
  go_wp2_with fail
  refine (l_eqFarm X1 Y1 X2 Y2 _ _ _ _ fx fy fr fd fs fr fd fs _ (F1.out.below B3.out) (F2.out.below B3.out) HF.out rfl rfl rfl).mono ?_
  rintro e w4 ⟨rfl, b⟩
  have B4 : Hid (Below w.heap.size w w4) := Lib.hid (below_of B3.out B3.out.size b)
  have K4 : Hid (BlkL w4 w.heap.size [.slice A1 a.length a.length, .slice L1 l.length l.length, .slice D1 d.length d.length, .slice S1 n n, .int .i64 c, .float .f32 hub, .float .f32 tip, .float .f32 e0, .float .f32 e1, .float .f32 e2, .float .f32 e3, .float .f32 p0, .float .f32 p1, .float .f32 p2, .float .f32 p3, .float .f32 p4, .float .f32 p5, .float .f32 p6, .float .f32 p7, .int .i64 st, .float .f32 sp, .float .f32 pi, .float .f32 en, .slice X1 fx.length fx.length, .slice Y1 fy.length fy.length, .float .f32 fr, .float .f32 fd, .float .f32 fs]) := Lib.hid (K3.out.below b)
  have M4 : Hid (BlkL w4 (w.heap.size + 1) [.slice A2 a.length a.length, .slice L2 l.length l.length, .slice D2 d.length d.length, .slice S2 n n, .int .i64 c, .float .f32 hub, .float .f32 tip, .float .f32 e0, .float .f32 e1, .float .f32 e2, .float .f32 e3, .float .f32 p0, .float .f32 p1, .float .f32 p2, .float .f32 p3, .float .f32 p4, .float .f32 p5, .float .f32 p6, .float .f32 p7, .int .i64 st, .float .f32 sp, .float .f32 pi, .float .f32 en, .slice X2 fx.length fx.length, .slice Y2 fy.length fy.length, .float .f32 fr, .float .f32 fd, .float .f32 fs]) := Lib.hid (M3.out.below b)
  clear b K3 M3
  clear k23 m23 k24 m24 k25 m25 k26 m26 k27 m27
  go_wp2
  go_ret
  exact ⟨rfl, B4.out⟩
theorem OwnO.setN {w : World} {B0 b : Nat} {A : Option Addr} {xs : List Nat} (h : OwnO w B0 A b xs) {p : Addr} (hp : p.block < B0) (v : Value) : OwnO (w.setCell p v) B0 A b xs := by
  rcases h with h | ⟨h1, h2, h3⟩
  · exact .inl h
  · exact .inr ⟨h1, h2, h3.setCell (by omega) v⟩
theorem OwnR2.setN {w : World} {B0 b1 b2 : Nat} {A L : Option Addr} {a l : List Nat} (h : OwnR2 w B0 A L b1 b2 a l) {p : Addr} (hp : p.block < B0) (v : Value) : OwnR2 (w.setCell p v) B0 A L b1 b2 a l := ⟨h.1.setN hp v, h.2.1.setN hp v, h.2.2⟩
set_option maxHeartbeats 16000000 in
set_option maxRecDepth 100000 in
theorem i_NewDesk (w : World) : Calls Try.prog 66 #[] w fun e w' => NdPost w e w' := by
  obtain ⟨w0, hw0⟩ : ∃ q, q = w.alloc (.cells #[.slice none 0 0, .slice none 0 0, .slice none 0 0, .slice none 0 0, .int .i64 0, .float .f32 0, .float .f32 0, .float .f32 0, .float .f32 0, .float .f32 0, .float .f32 0, .float .f32 0, .float .f32 0, .float .f32 0, .float .f32 0, .float .f32 0, .float .f32 0, .float .f32 0, .float .f32 0, .int .i64 0, .float .f32 0, .float .f32 0, .float .f32 0, .slice none 0 0, .slice none 0 0, .float .f32 0, .float .f32 0, .float .f32 0] 102) := ⟨_, rfl⟩
  have B0 : Hid (Below w.heap.size w w0) := Lib.hid (by rw [hw0]; exact (Below.refl _ _).alloc (Nat.le_refl _) _)
  have KZ0 : Hid (BlkL w0 w.heap.size [.slice none 0 0, .slice none 0 0, .slice none 0 0, .slice none 0 0, .int .i64 0, .float .f32 0, .float .f32 0, .float .f32 0, .float .f32 0, .float .f32 0, .float .f32 0, .float .f32 0, .float .f32 0, .float .f32 0, .float .f32 0, .float .f32 0, .float .f32 0, .float .f32 0, .float .f32 0, .int .i64 0, .float .f32 0, .float .f32 0, .float .f32 0, .slice none 0 0, .slice none 0 0, .float .f32 0, .float .f32 0, .float .f32 0]) := Lib.hid (by rw [hw0]; exact blkL_at w #[.slice none 0 0, .slice none 0 0, .slice none 0 0, .slice none 0 0, .int .i64 0, .float .f32 0, .float .f32 0, .float .f32 0, .float .f32 0, .float .f32 0, .float .f32 0, .float .f32 0, .float .f32 0, .float .f32 0, .float .f32 0, .float .f32 0, .float .f32 0, .float .f32 0, .float .f32 0, .int .i64 0, .float .f32 0, .float .f32 0, .float .f32 0, .slice none 0 0, .slice none 0 0, .float .f32 0, .float .f32 0, .float .f32 0] _ rfl)
  have Z0 : Hid (w0.heap.size = w.heap.size + 1) := Lib.hid (by rw [hw0]; simp)
  go_enter Try.func66, Try.ntmps66
  go_upto_region 1 with fail
  rw [← hw0]
  clear hw0
  go_wp2_with fail
  refine (i_Plate9 _).mono ?_
  rintro e w1 ⟨R1, R2, R3, d1, d2, d3, h1, h2, h3, rfl, ho, b⟩
  obtain ⟨BP, hBP⟩ : ∃ q, q = w1.heap.size := ⟨_, rfl⟩
  obtain ⟨wp, hwp⟩ : ∃ q, q = w1.alloc (.cells #[.slice R1 (pltA 9).length d1, .slice R2 (pltB 9).length d2, .slice R3 (pltE 9).length d3] 27) := ⟨_, rfl⟩
  have bb : Below w1.heap.size w1 wp := by rw [hwp]; exact (Below.refl _ _).alloc (Nat.le_refl _) _
  have KKBP : Hid (BlkL wp BP [.slice R1 (pltA 9).length d1, .slice R2 (pltB 9).length d2, .slice R3 (pltE 9).length d3]) := Lib.hid (by rw [hwp, hBP]; exact blkL_at w1 #[.slice R1 (pltA 9).length d1, .slice R2 (pltB 9).length d2, .slice R3 (pltE 9).length d3] _ rfl)
  have HPF : Hid (Pf wp R1 R2 R3 (pltA 9) (pltB 9) (pltE 9)) := Lib.hid (ho.below bb).pf
  have Bp : Hid (Below w.heap.size w wp) := Lib.hid (below_of (below_of B0.out B0.out.size b) (below_of B0.out B0.out.size b).size bb)
  have KZp : Hid (BlkL wp w.heap.size [.slice none 0 0, .slice none 0 0, .slice none 0 0, .slice none 0 0, .int .i64 0, .float .f32 0, .float .f32 0, .float .f32 0, .float .f32 0, .float .f32 0, .float .f32 0, .float .f32 0, .float .f32 0, .float .f32 0, .float .f32 0, .float .f32 0, .float .f32 0, .float .f32 0, .float .f32 0, .int .i64 0, .float .f32 0, .float .f32 0, .float .f32 0, .slice none 0 0, .slice none 0 0, .float .f32 0, .float .f32 0, .float .f32 0]) := Lib.hid ((KZ0.out.below b).below bb)
  have Zp : Hid (w.heap.size + 1 ≤ wp.heap.size) := Lib.hid (by have := Z0.out; have := b.size; have := bb.size; omega)
  clear ho b bb KZ0 B0 Z0
  go_upto_region 2 with fail
  rw [← hwp, ← hBP]
  clear hwp hBP
  obtain ⟨p0, p1, p2⟩ := KKBP.out.three
  go_wp2_with fail
  refine (i_Even9 R1 R2 R3 d1 d2 d3 wp HPF.out).mono ?_
  rintro e w2 ⟨Q1, Q2, Q3, Q4, c1, c2, c3, c4, g1, g2, g3, g4, rfl, ho, b⟩
  clear p0 p1 p2 KKBP HPF
  obtain ⟨BR, hBR⟩ : ∃ q, q = w2.heap.size := ⟨_, rfl⟩
  obtain ⟨wr, hwr⟩ : ∃ q, q = w2.alloc (.cells #[.slice Q1 ndA.length c1, .slice Q2 ndB.length c2, .slice Q3 ndE.length c3, .slice Q4 ndN c4, .int .i64 ndC, .float .f32 ndH, .float .f32 ndT] 30) := ⟨_, rfl⟩
  have bb : Below w2.heap.size w2 wr := by rw [hwr]; exact (Below.refl _ _).alloc (Nat.le_refl _) _
  have KKBR : Hid (BlkL wr BR [.slice Q1 ndA.length c1, .slice Q2 ndB.length c2, .slice Q3 ndE.length c3, .slice Q4 ndN c4, .int .i64 ndC, .float .f32 ndH, .float .f32 ndT]) := Lib.hid (by rw [hwr, hBR]; exact blkL_at w2 #[.slice Q1 ndA.length c1, .slice Q2 ndB.length c2, .slice Q3 ndE.length c3, .slice Q4 ndN c4, .int .i64 ndC, .float .f32 ndH, .float .f32 ndT] _ rfl)
  have HR : Hid (OwnT wr wp.heap.size Q1 Q2 Q3 Q4 g1 g2 g3 g4 ndA ndB ndE ndS) := Lib.hid (ho.below bb)
  have Br : Hid (Below w.heap.size w wr) := Lib.hid (below_of (below_of Bp.out Bp.out.size b) (below_of Bp.out Bp.out.size b).size bb)
  have KZr : Hid (BlkL wr w.heap.size [.slice none 0 0, .slice none 0 0, .slice none 0 0, .slice none 0 0, .int .i64 0, .float .f32 0, .float .f32 0, .float .f32 0, .float .f32 0, .float .f32 0, .float .f32 0, .float .f32 0, .float .f32 0, .float .f32 0, .float .f32 0, .float .f32 0, .float .f32 0, .float .f32 0, .float .f32 0, .int .i64 0, .float .f32 0, .float .f32 0, .float .f32 0, .slice none 0 0, .slice none 0 0, .float .f32 0, .float .f32 0, .float .f32 0]) := Lib.hid ((KZp.out.below b).below bb)
  clear ho b bb KZp Bp
  go_upto_region 3 with fail
  rw [← hwr, ← hBR]
  clear hwr hBR
  go_wp2_with fail
  refine (i_Drive0 wr).mono ?_
  rintro e w3 ⟨rfl, b⟩
  obtain ⟨BD, hBD⟩ : ∃ q, q = w3.heap.size := ⟨_, rfl⟩
  obtain ⟨wd, hwd⟩ : ∃ q, q = w3.alloc (.cells #[.float .f32 nq0, .float .f32 nq1, .float .f32 nq2, .float .f32 nq3, .float .f32 nq4, .float .f32 nq5, .float .f32 nq6, .float .f32 nq7, .int .i64 nst, .float .f32 nsp, .float .f32 npi, .float .f32 nen] 100) := ⟨_, rfl⟩
  have bb : Below w3.heap.size w3 wd := by rw [hwd]; exact (Below.refl _ _).alloc (Nat.le_refl _) _
  have KKBD : Hid (BlkL wd BD [.float .f32 nq0, .float .f32 nq1, .float .f32 nq2, .float .f32 nq3, .float .f32 nq4, .float .f32 nq5, .float .f32 nq6, .float .f32 nq7, .int .i64 nst, .float .f32 nsp, .float .f32 npi, .float .f32 nen]) := Lib.hid (by rw [hwd, hBD]; exact blkL_at w3 #[.float .f32 nq0, .float .f32 nq1, .float .f32 nq2, .float .f32 nq3, .float .f32 nq4, .float .f32 nq5, .float .f32 nq6, .float .f32 nq7, .int .i64 nst, .float .f32 nsp, .float .f32 npi, .float .f32 nen] _ rfl)
  have bq := below_of b b.size bb
  have HRd : Hid (OwnT wd wp.heap.size Q1 Q2 Q3 Q4 g1 g2 g3 g4 ndA ndB ndE ndS) := Lib.hid (HR.out.below bq)
  have Bd : Hid (Below w.heap.size w wd) := Lib.hid (below_of Br.out Br.out.size bq)
  have KZd : Hid (BlkL wd w.heap.size [.slice none 0 0, .slice none 0 0, .slice none 0 0, .slice none 0 0, .int .i64 0, .float .f32 0, .float .f32 0, .float .f32 0, .float .f32 0, .float .f32 0, .float .f32 0, .float .f32 0, .float .f32 0, .float .f32 0, .float .f32 0, .float .f32 0, .float .f32 0, .float .f32 0, .float .f32 0, .int .i64 0, .float .f32 0, .float .f32 0, .float .f32 0, .slice none 0 0, .slice none 0 0, .float .f32 0, .float .f32 0, .float .f32 0]) := Lib.hid (KZr.out.below bq)
  have KRd : Hid (BlkL wd BR [.slice Q1 ndA.length c1, .slice Q2 ndB.length c2, .slice Q3 ndE.length c3, .slice Q4 ndN c4, .int .i64 ndC, .float .f32 ndH, .float .f32 ndT]) := Lib.hid (KKBR.out.below bq)
  clear b bb bq KZr Br KKBR HR
  go_upto_region 4 with fail
  rw [← hwd, ← hBD]
  clear hwd hBD
  go_wp2_with fail
  refine (i_Row2 wd).mono ?_
  rintro e w4 ⟨X, Y, cx, cy, gx, gy, rfl, hf, b⟩
  obtain ⟨BF, hBF⟩ : ∃ q, q = w4.heap.size := ⟨_, rfl⟩
  obtain ⟨wf, hwf⟩ : ∃ q, q = w4.alloc (.cells #[.slice X ndX.length cx, .slice Y ndY.length cy, .float .f32 1065353216, .float .f32 1048576000, .float .f32 1040187392] 79) := ⟨_, rfl⟩
  have bb : Below w4.heap.size w4 wf := by rw [hwf]; exact (Below.refl _ _).alloc (Nat.le_refl _) _
  have KKBF : Hid (BlkL wf BF [.slice X ndX.length cx, .slice Y ndY.length cy, .float .f32 1065353216, .float .f32 1048576000, .float .f32 1040187392]) := Lib.hid (by rw [hwf, hBF]; exact blkL_at w4 #[.slice X ndX.length cx, .slice Y ndY.length cy, .float .f32 1065353216, .float .f32 1048576000, .float .f32 1040187392] _ rfl)
  have bq := below_of b b.size bb
  have HRf : Hid (OwnT wf wp.heap.size Q1 Q2 Q3 Q4 g1 g2 g3 g4 ndA ndB ndE ndS) := Lib.hid (HRd.out.below bq)
  have HFf : Hid (OwnR2 wf wd.heap.size X Y gx gy ndX ndY) := Lib.hid (hf.below bb)
  have Bf : Hid (Below w.heap.size w wf) := Lib.hid (below_of Bd.out Bd.out.size bq)
  have KZf : Hid (BlkL wf w.heap.size [.slice none 0 0, .slice none 0 0, .slice none 0 0, .slice none 0 0, .int .i64 0, .float .f32 0, .float .f32 0, .float .f32 0, .float .f32 0, .float .f32 0, .float .f32 0, .float .f32 0, .float .f32 0, .float .f32 0, .float .f32 0, .float .f32 0, .float .f32 0, .float .f32 0, .float .f32 0, .int .i64 0, .float .f32 0, .float .f32 0, .float .f32 0, .slice none 0 0, .slice none 0 0, .float .f32 0, .float .f32 0, .float .f32 0]) := Lib.hid (KZd.out.below bq)
  have KRf : Hid (BlkL wf BR [.slice Q1 ndA.length c1, .slice Q2 ndB.length c2, .slice Q3 ndE.length c3, .slice Q4 ndN c4, .int .i64 ndC, .float .f32 ndH, .float .f32 ndT]) := Lib.hid (KRd.out.below bq)
  have KDf : Hid (BlkL wf BD [.float .f32 nq0, .float .f32 nq1, .float .f32 nq2, .float .f32 nq3, .float .f32 nq4, .float .f32 nq5, .float .f32 nq6, .float .f32 nq7, .int .i64 nst, .float .f32 nsp, .float .f32 npi, .float .f32 nen]) := Lib.hid (KKBD.out.below bq)
  have HBD2 : Hid (∀ b, SRt ndA ndB ndE ndS g1 g2 g3 g4 b → b < wd.heap.size) := Lib.hid (fun b hb => (HRd.out.bd hb).2)
  have HZd : Hid (w.heap.size + 1 ≤ wd.heap.size) := Lib.hid KZd.out.1
  clear b bb bq hf KZd Bd KRd KKBD HRd
  go_upto_region 5 with fail
  rw [← hwf, ← hBF]
  clear hwf hBF
  have HT : wf.there w.heap.size 0 (#[.slice Q1 ndA.length c1, .slice Q2 ndB.length c2, .slice Q3 ndE.length c3, .slice Q4 ndN c4, .int .i64 ndC, .float .f32 ndH, .float .f32 ndT, .float .f32 1065353216, .float .f32 1092616192, .float .f32 1090519040, .float .f32 1048576000, .float .f32 nq0, .float .f32 nq1, .float .f32 nq2, .float .f32 nq3, .float .f32 nq4, .float .f32 nq5, .float .f32 nq6, .float .f32 nq7, .int .i64 nst, .float .f32 nsp, .float .f32 npi, .float .f32 nen, .slice X ndX.length cx, .slice Y ndY.length cy, .float .f32 1065353216, .float .f32 1048576000, .float .f32 1040187392] : Array Value).size := fun j hj => by
    obtain ⟨v, hv⟩ : ∃ v, ([.slice none 0 0, .slice none 0 0, .slice none 0 0, .slice none 0 0, .int .i64 0, .float .f32 0, .float .f32 0, .float .f32 0, .float .f32 0, .float .f32 0, .float .f32 0, .float .f32 0, .float .f32 0, .float .f32 0, .float .f32 0, .float .f32 0, .float .f32 0, .float .f32 0, .float .f32 0, .int .i64 0, .float .f32 0, .float .f32 0, .float .f32 0, .slice none 0 0, .slice none 0 0, .float .f32 0, .float .f32 0, .float .f32 0] : List Value)[j]? = some v := ⟨_, List.getElem?_eq_getElem (by simpa using hj)⟩
    rw [Nat.zero_add]
    exact ⟨by rw [(KZf.out.2 j v hv).1]; rfl, (KZf.out.2 j v hv).2⟩
  obtain ⟨W6, hW6⟩ : ∃ q, q = wf.setCells w.heap.size 0 (#[.slice Q1 ndA.length c1, .slice Q2 ndB.length c2, .slice Q3 ndE.length c3, .slice Q4 ndN c4, .int .i64 ndC, .float .f32 ndH, .float .f32 ndT, .float .f32 1065353216, .float .f32 1092616192, .float .f32 1090519040, .float .f32 1048576000, .float .f32 nq0, .float .f32 nq1, .float .f32 nq2, .float .f32 nq3, .float .f32 nq4, .float .f32 nq5, .float .f32 nq6, .float .f32 nq7, .int .i64 nst, .float .f32 nsp, .float .f32 npi, .float .f32 nen, .slice X ndX.length cx, .slice Y ndY.length cy, .float .f32 1065353216, .float .f32 1048576000, .float .f32 1040187392] : Array Value).toList := ⟨_, rfl⟩
  have hld := run_loadVar_mid (P := Try.prog) _ _ _ _ _ _ (World.rangeAt_setCells_same wf w.heap.size 0 [.slice Q1 ndA.length c1, .slice Q2 ndB.length c2, .slice Q3 ndE.length c3, .slice Q4 ndN c4, .int .i64 ndC, .float .f32 ndH, .float .f32 ndT, .float .f32 1065353216, .float .f32 1092616192, .float .f32 1090519040, .float .f32 1048576000, .float .f32 nq0, .float .f32 nq1, .float .f32 nq2, .float .f32 nq3, .float .f32 nq4, .float .f32 nq5, .float .f32 nq6, .float .f32 nq7, .int .i64 nst, .float .f32 nsp, .float .f32 npi, .float .f32 nen, .slice X ndX.length cx, .slice Y ndY.length cy, .float .f32 1065353216, .float .f32 1048576000, .float .f32 1040187392] (by simpa using HT)) Try.underlying102 rfl (by kernel_rfl)
  have hzz := HZd.out
  have hzp := Zp.out
  have HR6 : Hid (OwnT W6 wp.heap.size Q1 Q2 Q3 Q4 g1 g2 g3 g4 ndA ndB ndE ndS) := Lib.hid (by rw [hW6]; exact setCells_keep (Q := fun W => OwnT W wp.heap.size Q1 Q2 Q3 Q4 g1 g2 g3 g4 ndA ndB ndE ndS) (fun W j v h => h.setT (by show w.heap.size < _; omega) v) _ _ _ HRf.out)
  have HF6 : Hid (OwnR2 W6 wd.heap.size X Y gx gy ndX ndY) := Lib.hid (by rw [hW6]; exact setCells_keep (Q := fun W => OwnR2 W wd.heap.size X Y gx gy ndX ndY) (fun W j v h => h.setN (by show w.heap.size < _; omega) v) _ _ _ HFf.out)
  have B6 : Hid (Below w.heap.size w W6) := Lib.hid (by rw [hW6]; exact setCells_keep (Q := fun W => Below w.heap.size w W) (fun W j v h => h.setCell (by show w.heap.size ≤ w.heap.size; omega) v) _ _ _ Bf.out)
  clear hzz hzp
  have HLD := Lib.hid hld
  clear hld
  have k0 := (KRf.out.2 0 _ rfl).1
  have k1 := (KRf.out.2 1 _ rfl).1
  have k2 := (KRf.out.2 2 _ rfl).1
  have k3 := (KRf.out.2 3 _ rfl).1
  have k4 := (KRf.out.2 4 _ rfl).1
  have k5 := (KRf.out.2 5 _ rfl).1
  have k6 := (KRf.out.2 6 _ rfl).1
  have m0 := (KDf.out.2 0 _ rfl).1
  have m1 := (KDf.out.2 1 _ rfl).1
  have m2 := (KDf.out.2 2 _ rfl).1
  have m3 := (KDf.out.2 3 _ rfl).1
  have m4 := (KDf.out.2 4 _ rfl).1
  have m5 := (KDf.out.2 5 _ rfl).1
  have m6 := (KDf.out.2 6 _ rfl).1
  have m7 := (KDf.out.2 7 _ rfl).1
  have m8 := (KDf.out.2 8 _ rfl).1
  have m9 := (KDf.out.2 9 _ rfl).1
  have m10 := (KDf.out.2 10 _ rfl).1
  have m11 := (KDf.out.2 11 _ rfl).1
  have f0 := (KKBF.out.2 0 _ rfl).1
  have f1 := (KKBF.out.2 1 _ rfl).1
  have f2 := (KKBF.out.2 2 _ rfl).1
  have f3 := (KKBF.out.2 3 _ rfl).1
  have f4 := (KKBF.out.2 4 _ rfl).1
  go_wp2_with (first | (refine wpList_store_mid rfl 102 _ _ rfl w.heap.size 0 _ rfl rfl HT (by kernel_rfl) (all_oneCell_toArray (by simp [Value.oneCell'])) ?_) | fail)
  rw [← hW6]
  have hld : _ = _ := HLD.out
  rw [show (wf.setCells w.heap.size 0 [.slice Q1 ndA.length c1, .slice Q2 ndB.length c2, .slice Q3 ndE.length c3, .slice Q4 ndN c4, .int .i64 ndC, .float .f32 ndH, .float .f32 ndT, .float .f32 1065353216, .float .f32 1092616192, .float .f32 1090519040, .float .f32 1048576000, .float .f32 nq0, .float .f32 nq1, .float .f32 nq2, .float .f32 nq3, .float .f32 nq4, .float .f32 nq5, .float .f32 nq6, .float .f32 nq7, .int .i64 nst, .float .f32 nsp, .float .f32 npi, .float .f32 nen, .slice X ndX.length cx, .slice Y ndY.length cy, .float .f32 1065353216, .float .f32 1048576000, .float .f32 1040187392]) = W6 from hW6.symm] at hld
  clear HLD hW6 HT
  refine bodyPost_ret (v := .agg #[.slice Q1 ndA.length c1, .slice Q2 ndB.length c2, .slice Q3 ndE.length c3, .slice Q4 ndN c4, .int .i64 ndC, .float .f32 ndH, .float .f32 ndT, .float .f32 1065353216, .float .f32 1092616192, .float .f32 1090519040, .float .f32 1048576000, .float .f32 nq0, .float .f32 nq1, .float .f32 nq2, .float .f32 nq3, .float .f32 nq4, .float .f32 nq5, .float .f32 nq6, .float .f32 nq7, .int .i64 nst, .float .f32 nsp, .float .f32 npi, .float .f32 nen, .slice X ndX.length cx, .slice Y ndY.length cy, .float .f32 1065353216, .float .f32 1048576000, .float .f32 1040187392]) ?_ rfl (by unfold NdPost; exact ⟨Q1, Q2, Q3, Q4, X, Y, c1, c2, c3, c4, cx, cy, g1, g2, g3, g4, gx, gy, wd.heap.size, rfl, HR6.out.baseT (by have := Zp.out; omega), HF6.out, by have := HZd.out; omega, HBD2.out, B6.out⟩)
  rw [results_cell1 Try.results66]
  show ((asAddr (.pointer (some ⟨w.heap.size, 0, none⟩))).run Try.prog W6).andThen _ = _
  simp only [asAddr, Sem.run_pure, Result.andThen, hld]
theorem OwnO.setM {w : World} {B0 b : Nat} {A : Option Addr} {xs : List Nat} (h : OwnO w B0 A b xs) {p : Addr} (hp : p.block < B0) (v : Value) : OwnO (w.setCell p v) B0 A b xs := by
  rcases h with h | ⟨h1, h2, h3⟩
  · exact .inl h
  · exact .inr ⟨h1, h2, h3.setCell (by omega) v⟩
theorem OwnR2.setM {w : World} {B0 b1 b2 : Nat} {A L : Option Addr} {a l : List Nat} (h : OwnR2 w B0 A L b1 b2 a l) {p : Addr} (hp : p.block < B0) (v : Value) : OwnR2 (w.setCell p v) B0 A L b1 b2 a l := ⟨h.1.setM hp v, h.2.1.setM hp v, h.2.2⟩
theorem s_Plate9 (w : World) : Calls Try.prog 147 #[.int .i64 9] w fun e w' => ∃ (R1 R2 R3 : Option Addr) (d1 d2 d3 h1 h2 h3 : Nat), e = .returned (.agg #[.slice R1 (pltA 9).length d1, .slice R2 (pltB 9).length d2, .slice R3 (pltE 9).length d3]) ∧ OwnQ w' w.heap.size R1 R2 R3 h1 h2 h3 (pltA 9) (pltB 9) (pltE 9) ∧ Below w.heap.size w w' := by
  refine (s_l02Plate 9 w (by omega) (by omega)).mono ?_
  rintro e w' ⟨R1, R2, R3, d1, d2, d3, g1, g2, g3, xs, ys, zs, rfl, ho, c1, c2, c3, b⟩
  have hv := plt9
  rw [pltO_yes (by omega)] at hv
  obtain ⟨rfl, rfl, rfl⟩ := validP_eq c1 c2 c3 hv
  exact ⟨R1, R2, R3, d1, d2, d3, g1, g2, g3, rfl, ho, b⟩
theorem s_Row2 (w : World) : Calls Try.prog 149 #[.int .i64 2, .float .f32 1082130432, .float .f32 1065353216, .float .f32 1048576000, .float .f32 1040187392] w fun e w' => ∃ (X Y : Option Addr) (cx cy gx gy : Nat), e = .returned (.agg #[.slice X ndX.length cx, .slice Y ndY.length cy, .float .f32 1065353216, .float .f32 1048576000, .float .f32 1040187392]) ∧ OwnR2 w' w.heap.size X Y gx gy ndX ndY ∧ Below w.heap.size w w' := by
  refine (s_l06Row 2 1082130432 1065353216 1048576000 1040187392 w (by omega)).mono ?_
  rintro e w' ⟨v, v', xs, rfl, hl, hq, gx, gy, nv, b⟩
  have hr := row2
  rw [rowO_yes (by omega)] at hr
  have hf := (frmV_parts hr).1
  have hx : xs = rowX 1082130432 2 := by
    refine list_same (by rw [hl, rowX_length]; rfl) hf (fun k hk => ?_)
    rw [hl] at hk
    rw [hq k hk, rowX_at (by simpa using hk)]
    exact (canon_fop ..).symm
  subst hx
  obtain ⟨Av, cv, bv, rfl, ox⟩ := Gr.own gx
  obtain ⟨Aw, cw, bw, rfl, oy⟩ := Gr.own gy
  have hne : bv ≠ bw := by
    rcases ox with h | ⟨rfl, hbv, ox'⟩
    · have := congrArg List.length h; rw [hl] at this; simp at this
    · rcases oy with h | ⟨rfl, hbw, oy'⟩
      · have := congrArg List.length h; simp at this
      · exact fun e => nv bv rfl (by rw [e]; rfl)
  exact ⟨Av, Aw, cv, cw, bv, bw, rfl, ⟨ox, oy, hne⟩, b⟩
set_option maxHeartbeats 16000000 in
set_option maxRecDepth 100000 in
theorem s_NewDesk (w : World) : Calls Try.prog 65 #[] w fun e w' => NdPost w e w' := by
  obtain ⟨w0, hw0⟩ : ∃ q, q = w.alloc (.cells #[.slice none 0 0, .slice none 0 0, .slice none 0 0, .slice none 0 0, .int .i64 0, .float .f32 0, .float .f32 0, .float .f32 0, .float .f32 0, .float .f32 0, .float .f32 0, .float .f32 0, .float .f32 0, .float .f32 0, .float .f32 0, .float .f32 0, .float .f32 0, .float .f32 0, .float .f32 0, .int .i64 0, .float .f32 0, .float .f32 0, .float .f32 0, .slice none 0 0, .slice none 0 0, .float .f32 0, .float .f32 0, .float .f32 0] 102) := ⟨_, rfl⟩
  have B0 : Hid (Below w.heap.size w w0) := Lib.hid (by rw [hw0]; exact (Below.refl _ _).alloc (Nat.le_refl _) _)
  have KZ0 : Hid (BlkL w0 w.heap.size [.slice none 0 0, .slice none 0 0, .slice none 0 0, .slice none 0 0, .int .i64 0, .float .f32 0, .float .f32 0, .float .f32 0, .float .f32 0, .float .f32 0, .float .f32 0, .float .f32 0, .float .f32 0, .float .f32 0, .float .f32 0, .float .f32 0, .float .f32 0, .float .f32 0, .float .f32 0, .int .i64 0, .float .f32 0, .float .f32 0, .float .f32 0, .slice none 0 0, .slice none 0 0, .float .f32 0, .float .f32 0, .float .f32 0]) := Lib.hid (by rw [hw0]; exact blkL_at w #[.slice none 0 0, .slice none 0 0, .slice none 0 0, .slice none 0 0, .int .i64 0, .float .f32 0, .float .f32 0, .float .f32 0, .float .f32 0, .float .f32 0, .float .f32 0, .float .f32 0, .float .f32 0, .float .f32 0, .float .f32 0, .float .f32 0, .float .f32 0, .float .f32 0, .float .f32 0, .int .i64 0, .float .f32 0, .float .f32 0, .float .f32 0, .slice none 0 0, .slice none 0 0, .float .f32 0, .float .f32 0, .float .f32 0] _ rfl)
  have Z0 : Hid (w0.heap.size = w.heap.size + 1) := Lib.hid (by rw [hw0]; simp)
  go_enter Try.func65, Try.ntmps65
  go_upto_region 1 with fail
  rw [← hw0]
  clear hw0
  go_wp2_with fail
  refine (s_Plate9 _).mono ?_
  rintro e wp ⟨R1, R2, R3, d1, d2, d3, h1, h2, h3, rfl, ho, b⟩
  have HPF : Hid (Pf wp R1 R2 R3 (pltA 9) (pltB 9) (pltE 9)) := Lib.hid ho.pf
  have Bp : Hid (Below w.heap.size w wp) := Lib.hid (below_of B0.out B0.out.size b)
  have KZp : Hid (BlkL wp w.heap.size [.slice none 0 0, .slice none 0 0, .slice none 0 0, .slice none 0 0, .int .i64 0, .float .f32 0, .float .f32 0, .float .f32 0, .float .f32 0, .float .f32 0, .float .f32 0, .float .f32 0, .float .f32 0, .float .f32 0, .float .f32 0, .float .f32 0, .float .f32 0, .float .f32 0, .float .f32 0, .int .i64 0, .float .f32 0, .float .f32 0, .float .f32 0, .slice none 0 0, .slice none 0 0, .float .f32 0, .float .f32 0, .float .f32 0]) := Lib.hid (KZ0.out.below b)
  have Zp : Hid (w.heap.size + 1 ≤ wp.heap.size) := Lib.hid (by have := Z0.out; have := b.size; omega)
  clear ho b KZ0 B0 Z0
  go_wp2_with fail
  refine (s_Even9 R1 R2 R3 d1 d2 d3 wp HPF.out).mono ?_
  rintro e w2 ⟨Q1, Q2, Q3, Q4, c1, c2, c3, c4, g1, g2, g3, g4, rfl, ho, b⟩
  clear HPF
  obtain ⟨BR, hBR⟩ : ∃ q, q = w2.heap.size := ⟨_, rfl⟩
  obtain ⟨wr, hwr⟩ : ∃ q, q = w2.alloc (.cells #[.slice Q1 ndA.length c1, .slice Q2 ndB.length c2, .slice Q3 ndE.length c3, .slice Q4 ndN c4, .int .i64 ndC, .float .f32 ndH, .float .f32 ndT] 30) := ⟨_, rfl⟩
  have bb : Below w2.heap.size w2 wr := by rw [hwr]; exact (Below.refl _ _).alloc (Nat.le_refl _) _
  have KKBR : Hid (BlkL wr BR [.slice Q1 ndA.length c1, .slice Q2 ndB.length c2, .slice Q3 ndE.length c3, .slice Q4 ndN c4, .int .i64 ndC, .float .f32 ndH, .float .f32 ndT]) := Lib.hid (by rw [hwr, hBR]; exact blkL_at w2 #[.slice Q1 ndA.length c1, .slice Q2 ndB.length c2, .slice Q3 ndE.length c3, .slice Q4 ndN c4, .int .i64 ndC, .float .f32 ndH, .float .f32 ndT] _ rfl)
  have HR : Hid (OwnT wr wp.heap.size Q1 Q2 Q3 Q4 g1 g2 g3 g4 ndA ndB ndE ndS) := Lib.hid (ho.below bb)
  have Br : Hid (Below w.heap.size w wr) := Lib.hid (below_of (below_of Bp.out Bp.out.size b) (below_of Bp.out Bp.out.size b).size bb)
  have KZr : Hid (BlkL wr w.heap.size [.slice none 0 0, .slice none 0 0, .slice none 0 0, .slice none 0 0, .int .i64 0, .float .f32 0, .float .f32 0, .float .f32 0, .float .f32 0, .float .f32 0, .float .f32 0, .float .f32 0, .float .f32 0, .float .f32 0, .float .f32 0, .float .f32 0, .float .f32 0, .float .f32 0, .float .f32 0, .int .i64 0, .float .f32 0, .float .f32 0, .float .f32 0, .slice none 0 0, .slice none 0 0, .float .f32 0, .float .f32 0, .float .f32 0]) := Lib.hid ((KZp.out.below b).below bb)
  clear ho b bb KZp Bp
  go_upto_region 2 with fail
  rw [← hwr, ← hBR]
  clear hwr hBR
  go_wp2_with fail
  refine (s_Drive0 wr).mono ?_
  rintro e w3 ⟨rfl, b⟩
  obtain ⟨BD, hBD⟩ : ∃ q, q = w3.heap.size := ⟨_, rfl⟩
  obtain ⟨wd, hwd⟩ : ∃ q, q = w3.alloc (.cells #[.float .f32 nq0, .float .f32 nq1, .float .f32 nq2, .float .f32 nq3, .float .f32 nq4, .float .f32 nq5, .float .f32 nq6, .float .f32 nq7, .int .i64 nst, .float .f32 nsp, .float .f32 npi, .float .f32 nen] 100) := ⟨_, rfl⟩
  have bb : Below w3.heap.size w3 wd := by rw [hwd]; exact (Below.refl _ _).alloc (Nat.le_refl _) _
  have KKBD : Hid (BlkL wd BD [.float .f32 nq0, .float .f32 nq1, .float .f32 nq2, .float .f32 nq3, .float .f32 nq4, .float .f32 nq5, .float .f32 nq6, .float .f32 nq7, .int .i64 nst, .float .f32 nsp, .float .f32 npi, .float .f32 nen]) := Lib.hid (by rw [hwd, hBD]; exact blkL_at w3 #[.float .f32 nq0, .float .f32 nq1, .float .f32 nq2, .float .f32 nq3, .float .f32 nq4, .float .f32 nq5, .float .f32 nq6, .float .f32 nq7, .int .i64 nst, .float .f32 nsp, .float .f32 npi, .float .f32 nen] _ rfl)
  have bq := below_of b b.size bb
  have HRd : Hid (OwnT wd wp.heap.size Q1 Q2 Q3 Q4 g1 g2 g3 g4 ndA ndB ndE ndS) := Lib.hid (HR.out.below bq)
  have Bd : Hid (Below w.heap.size w wd) := Lib.hid (below_of Br.out Br.out.size bq)
  have KZd : Hid (BlkL wd w.heap.size [.slice none 0 0, .slice none 0 0, .slice none 0 0, .slice none 0 0, .int .i64 0, .float .f32 0, .float .f32 0, .float .f32 0, .float .f32 0, .float .f32 0, .float .f32 0, .float .f32 0, .float .f32 0, .float .f32 0, .float .f32 0, .float .f32 0, .float .f32 0, .float .f32 0, .float .f32 0, .int .i64 0, .float .f32 0, .float .f32 0, .float .f32 0, .slice none 0 0, .slice none 0 0, .float .f32 0, .float .f32 0, .float .f32 0]) := Lib.hid (KZr.out.below bq)
  have KRd : Hid (BlkL wd BR [.slice Q1 ndA.length c1, .slice Q2 ndB.length c2, .slice Q3 ndE.length c3, .slice Q4 ndN c4, .int .i64 ndC, .float .f32 ndH, .float .f32 ndT]) := Lib.hid (KKBR.out.below bq)
  clear b bb bq KZr Br KKBR HR
  go_upto_region 3 with fail
  rw [← hwd, ← hBD]
  clear hwd hBD
  obtain ⟨BK, hBK⟩ : ∃ q, q = wd.heap.size := ⟨_, rfl⟩
  have HKZ : Hid (BlkL (wd.alloc (.cells #[.slice none 0 0, .slice none 0 0, .slice none 0 0, .slice none 0 0, .int .i64 0, .float .f32 0, .float .f32 0, .float .f32 0, .float .f32 0, .float .f32 0, .float .f32 0, .float .f32 0, .float .f32 0, .float .f32 0, .float .f32 0, .float .f32 0, .float .f32 0, .float .f32 0, .float .f32 0, .int .i64 0, .float .f32 0, .float .f32 0, .float .f32 0, .slice none 0 0, .slice none 0 0, .float .f32 0, .float .f32 0, .float .f32 0] 102)) BK [.slice none 0 0, .slice none 0 0, .slice none 0 0, .slice none 0 0, .int .i64 0, .float .f32 0, .float .f32 0, .float .f32 0, .float .f32 0, .float .f32 0, .float .f32 0, .float .f32 0, .float .f32 0, .float .f32 0, .float .f32 0, .float .f32 0, .float .f32 0, .float .f32 0, .float .f32 0, .int .i64 0, .float .f32 0, .float .f32 0, .float .f32 0, .slice none 0 0, .slice none 0 0, .float .f32 0, .float .f32 0, .float .f32 0]) := Lib.hid (by rw [hBK]; exact blkL_at wd #[.slice none 0 0, .slice none 0 0, .slice none 0 0, .slice none 0 0, .int .i64 0, .float .f32 0, .float .f32 0, .float .f32 0, .float .f32 0, .float .f32 0, .float .f32 0, .float .f32 0, .float .f32 0, .float .f32 0, .float .f32 0, .float .f32 0, .float .f32 0, .float .f32 0, .float .f32 0, .int .i64 0, .float .f32 0, .float .f32 0, .float .f32 0, .slice none 0 0, .slice none 0 0, .float .f32 0, .float .f32 0, .float .f32 0] _ rfl)
  have HT : (wd.alloc (.cells #[.slice none 0 0, .slice none 0 0, .slice none 0 0, .slice none 0 0, .int .i64 0, .float .f32 0, .float .f32 0, .float .f32 0, .float .f32 0, .float .f32 0, .float .f32 0, .float .f32 0, .float .f32 0, .float .f32 0, .float .f32 0, .float .f32 0, .float .f32 0, .float .f32 0, .float .f32 0, .int .i64 0, .float .f32 0, .float .f32 0, .float .f32 0, .slice none 0 0, .slice none 0 0, .float .f32 0, .float .f32 0, .float .f32 0] 102)).there wd.heap.size 0 (#[.slice Q1 ndA.length c1, .slice Q2 ndB.length c2, .slice Q3 ndE.length c3, .slice Q4 ndN c4, .int .i64 ndC, .float .f32 ndH, .float .f32 ndT, .float .f32 1065353216, .float .f32 1092616192, .float .f32 1090519040, .float .f32 1048576000, .float .f32 nq0, .float .f32 nq1, .float .f32 nq2, .float .f32 nq3, .float .f32 nq4, .float .f32 nq5, .float .f32 nq6, .float .f32 nq7, .int .i64 nst, .float .f32 nsp, .float .f32 npi, .float .f32 nen, .slice none 0 0, .slice none 0 0, .float .f32 0, .float .f32 0, .float .f32 0] : Array Value).size := fun j hj => by
    obtain ⟨v, hv⟩ : ∃ v, ([.slice none 0 0, .slice none 0 0, .slice none 0 0, .slice none 0 0, .int .i64 0, .float .f32 0, .float .f32 0, .float .f32 0, .float .f32 0, .float .f32 0, .float .f32 0, .float .f32 0, .float .f32 0, .float .f32 0, .float .f32 0, .float .f32 0, .float .f32 0, .float .f32 0, .float .f32 0, .int .i64 0, .float .f32 0, .float .f32 0, .float .f32 0, .slice none 0 0, .slice none 0 0, .float .f32 0, .float .f32 0, .float .f32 0] : List Value)[j]? = some v := ⟨_, List.getElem?_eq_getElem (by simpa using hj)⟩
    rw [Nat.zero_add, ← hBK]
    exact ⟨by rw [(HKZ.out.2 j v hv).1]; rfl, (HKZ.out.2 j v hv).2⟩
  obtain ⟨wk, hwk⟩ : ∃ q, q = (wd.alloc (.cells #[.slice none 0 0, .slice none 0 0, .slice none 0 0, .slice none 0 0, .int .i64 0, .float .f32 0, .float .f32 0, .float .f32 0, .float .f32 0, .float .f32 0, .float .f32 0, .float .f32 0, .float .f32 0, .float .f32 0, .float .f32 0, .float .f32 0, .float .f32 0, .float .f32 0, .float .f32 0, .int .i64 0, .float .f32 0, .float .f32 0, .float .f32 0, .slice none 0 0, .slice none 0 0, .float .f32 0, .float .f32 0, .float .f32 0] 102)).setCells wd.heap.size 0 (#[.slice Q1 ndA.length c1, .slice Q2 ndB.length c2, .slice Q3 ndE.length c3, .slice Q4 ndN c4, .int .i64 ndC, .float .f32 ndH, .float .f32 ndT, .float .f32 1065353216, .float .f32 1092616192, .float .f32 1090519040, .float .f32 1048576000, .float .f32 nq0, .float .f32 nq1, .float .f32 nq2, .float .f32 nq3, .float .f32 nq4, .float .f32 nq5, .float .f32 nq6, .float .f32 nq7, .int .i64 nst, .float .f32 nsp, .float .f32 npi, .float .f32 nen, .slice none 0 0, .slice none 0 0, .float .f32 0, .float .f32 0, .float .f32 0] : Array Value).toList := ⟨_, rfl⟩
  have KKo : BlkL wk BK [.slice Q1 ndA.length c1, .slice Q2 ndB.length c2, .slice Q3 ndE.length c3, .slice Q4 ndN c4, .int .i64 ndC, .float .f32 ndH, .float .f32 ndT, .float .f32 1065353216, .float .f32 1092616192, .float .f32 1090519040, .float .f32 1048576000, .float .f32 nq0, .float .f32 nq1, .float .f32 nq2, .float .f32 nq3, .float .f32 nq4, .float .f32 nq5, .float .f32 nq6, .float .f32 nq7, .int .i64 nst, .float .f32 nsp, .float .f32 npi, .float .f32 nen, .slice none 0 0, .slice none 0 0, .float .f32 0, .float .f32 0, .float .f32 0] := by rw [hwk, ← hBK]; exact blkL_setCellsN HKZ.out rfl
  have b : Below wd.heap.size wd wk := by rw [hwk]; exact setCells_keep (Q := fun W => Below wd.heap.size wd W) (fun W j v h => h.setCell (by show wd.heap.size ≤ wd.heap.size; omega) v) _ _ _ ((Below.refl _ _).alloc (Nat.le_refl _) _)
  have HRk : Hid (OwnT wk wp.heap.size Q1 Q2 Q3 Q4 g1 g2 g3 g4 ndA ndB ndE ndS) := Lib.hid (HRd.out.below b)
  have Bk : Hid (Below w.heap.size w wk) := Lib.hid (below_of Bd.out Bd.out.size b)
  have KZk : Hid (BlkL wk w.heap.size [.slice none 0 0, .slice none 0 0, .slice none 0 0, .slice none 0 0, .int .i64 0, .float .f32 0, .float .f32 0, .float .f32 0, .float .f32 0, .float .f32 0, .float .f32 0, .float .f32 0, .float .f32 0, .float .f32 0, .float .f32 0, .float .f32 0, .float .f32 0, .float .f32 0, .float .f32 0, .int .i64 0, .float .f32 0, .float .f32 0, .float .f32 0, .slice none 0 0, .slice none 0 0, .float .f32 0, .float .f32 0, .float .f32 0]) := Lib.hid (KZd.out.below b)
  have HBK : Hid (w.heap.size < BK ∧ BK < wk.heap.size) := Lib.hid ⟨by have := KZd.out.1; omega, KKo.1⟩
  have HKo := Lib.hid KKo
  have HLT : Hid (∀ b, SRt ndA ndB ndE ndS g1 g2 g3 g4 b → b < BK) := Lib.hid (fun b hb => by rw [hBK]; exact (HRd.out.bd hb).2)
  have k0 := fun o => ((KRd.out.alloc o).2 0 _ rfl).1
  have kk0 := (KRd.out.2 0 _ rfl).1
  have k1 := fun o => ((KRd.out.alloc o).2 1 _ rfl).1
  have kk1 := (KRd.out.2 1 _ rfl).1
  have k2 := fun o => ((KRd.out.alloc o).2 2 _ rfl).1
  have kk2 := (KRd.out.2 2 _ rfl).1
  have k3 := fun o => ((KRd.out.alloc o).2 3 _ rfl).1
  have kk3 := (KRd.out.2 3 _ rfl).1
  have k4 := fun o => ((KRd.out.alloc o).2 4 _ rfl).1
  have kk4 := (KRd.out.2 4 _ rfl).1
  have k5 := fun o => ((KRd.out.alloc o).2 5 _ rfl).1
  have kk5 := (KRd.out.2 5 _ rfl).1
  have k6 := fun o => ((KRd.out.alloc o).2 6 _ rfl).1
  have kk6 := (KRd.out.2 6 _ rfl).1
  have m0 := fun o => ((KKBD.out.alloc o).2 0 _ rfl).1
  have mm0 := (KKBD.out.2 0 _ rfl).1
  have m1 := fun o => ((KKBD.out.alloc o).2 1 _ rfl).1
  have mm1 := (KKBD.out.2 1 _ rfl).1
  have m2 := fun o => ((KKBD.out.alloc o).2 2 _ rfl).1
  have mm2 := (KKBD.out.2 2 _ rfl).1
  have m3 := fun o => ((KKBD.out.alloc o).2 3 _ rfl).1
  have mm3 := (KKBD.out.2 3 _ rfl).1
  have m4 := fun o => ((KKBD.out.alloc o).2 4 _ rfl).1
  have mm4 := (KKBD.out.2 4 _ rfl).1
  have m5 := fun o => ((KKBD.out.alloc o).2 5 _ rfl).1
  have mm5 := (KKBD.out.2 5 _ rfl).1
  have m6 := fun o => ((KKBD.out.alloc o).2 6 _ rfl).1
  have mm6 := (KKBD.out.2 6 _ rfl).1
  have m7 := fun o => ((KKBD.out.alloc o).2 7 _ rfl).1
  have mm7 := (KKBD.out.2 7 _ rfl).1
  have m8 := fun o => ((KKBD.out.alloc o).2 8 _ rfl).1
  have mm8 := (KKBD.out.2 8 _ rfl).1
  have m9 := fun o => ((KKBD.out.alloc o).2 9 _ rfl).1
  have mm9 := (KKBD.out.2 9 _ rfl).1
  have m10 := fun o => ((KKBD.out.alloc o).2 10 _ rfl).1
  have mm10 := (KKBD.out.2 10 _ rfl).1
  have m11 := fun o => ((KKBD.out.alloc o).2 11 _ rfl).1
  have mm11 := (KKBD.out.2 11 _ rfl).1
  clear b KZd Bd KRd KKBD HRd KKo HKZ
  go_upto_region 4 with (refine wpList_store_mid rfl 102 _ _ rfl wd.heap.size 0 _ rfl rfl HT (by kernel_rfl) (all_oneCell_toArray (by simp [Value.oneCell'])) ?_)
  rw [← hwk, ← hBK]
  clear hwk hBK HT k0 kk0 k1 kk1 k2 kk2 k3 kk3 k4 kk4 k5 kk5 k6 kk6 m0 mm0 m1 mm1 m2 mm2 m3 mm3 m4 mm4 m5 mm5 m6 mm6 m7 mm7 m8 mm8 m9 mm9 m10 mm10 m11 mm11
  go_wp2_with fail
  refine (s_Row2 wk).mono ?_
  rintro e w4 ⟨X, Y, cx, cy, gx, gy, rfl, hf, b⟩
  have KKo := HKo.out
  obtain ⟨wf, hwf⟩ : ∃ q, q = (((((w4).setCell ⟨BK, 23, none⟩ (.slice X ndX.length cx)).setCell ⟨BK, 24, none⟩ (.slice Y ndY.length cy)).setCell ⟨BK, 25, none⟩ (.float .f32 1065353216)).setCell ⟨BK, 26, none⟩ (.float .f32 1048576000)).setCell ⟨BK, 27, none⟩ (.float .f32 1040187392) := ⟨_, rfl⟩
  have e1 := HBK.out
  have KKf : Hid (BlkL wf BK [.slice Q1 ndA.length c1, .slice Q2 ndB.length c2, .slice Q3 ndE.length c3, .slice Q4 ndN c4, .int .i64 ndC, .float .f32 ndH, .float .f32 ndT, .float .f32 1065353216, .float .f32 1092616192, .float .f32 1090519040, .float .f32 1048576000, .float .f32 nq0, .float .f32 nq1, .float .f32 nq2, .float .f32 nq3, .float .f32 nq4, .float .f32 nq5, .float .f32 nq6, .float .f32 nq7, .int .i64 nst, .float .f32 nsp, .float .f32 npi, .float .f32 nen, .slice X ndX.length cx, .slice Y ndY.length cy, .float .f32 1065353216, .float .f32 1048576000, .float .f32 1040187392]) := Lib.hid (by rw [hwf]; exact ((((((KKo.below b).set (i := 23) (by simp) (.slice X ndX.length cx)).set (i := 24) (by simp) (.slice Y ndY.length cy)).set (i := 25) (by simp) (.float .f32 1065353216)).set (i := 26) (by simp) (.float .f32 1048576000)).set (i := 27) (by simp) (.float .f32 1040187392)))
  have HTW : Hid (Turn w4 wf (fun b => b = BK)) := Lib.hid (by rw [hwf]; exact (((((Turn.set _ (B := BK) ⟨BK, 23, none⟩ rfl (.slice X ndX.length cx)).trans (Turn.set _ (B := BK) ⟨BK, 24, none⟩ rfl (.slice Y ndY.length cy))).trans (Turn.set _ (B := BK) ⟨BK, 25, none⟩ rfl (.float .f32 1065353216))).trans (Turn.set _ (B := BK) ⟨BK, 26, none⟩ rfl (.float .f32 1048576000))).trans (Turn.set _ (B := BK) ⟨BK, 27, none⟩ rfl (.float .f32 1040187392))))
  have HRf : Hid (OwnT wf wp.heap.size Q1 Q2 Q3 Q4 g1 g2 g3 g4 ndA ndB ndE ndS) := Lib.hid ((HRk.out.below b).turnS HTW.out (fun c hc hh => by have h1 := HLT.out c hc; have hh : c = BK := hh; omega))
  have HFf : Hid (OwnR2 wf wk.heap.size X Y gx gy ndX ndY) := Lib.hid (by rw [hwf]; exact (((((hf).setM (p := ⟨BK, 23, none⟩) (by show BK < _; omega) (.slice X ndX.length cx)).setM (p := ⟨BK, 24, none⟩) (by show BK < _; omega) (.slice Y ndY.length cy)).setM (p := ⟨BK, 25, none⟩) (by show BK < _; omega) (.float .f32 1065353216)).setM (p := ⟨BK, 26, none⟩) (by show BK < _; omega) (.float .f32 1048576000)).setM (p := ⟨BK, 27, none⟩) (by show BK < _; omega) (.float .f32 1040187392))
  have Bf : Hid (Below w.heap.size w wf) := Lib.hid (by rw [hwf]; exact ((((((below_of Bk.out Bk.out.size b)).setCell (p := ⟨BK, 23, none⟩) (by show w.heap.size ≤ BK; omega) (.slice X ndX.length cx)).setCell (p := ⟨BK, 24, none⟩) (by show w.heap.size ≤ BK; omega) (.slice Y ndY.length cy)).setCell (p := ⟨BK, 25, none⟩) (by show w.heap.size ≤ BK; omega) (.float .f32 1065353216)).setCell (p := ⟨BK, 26, none⟩) (by show w.heap.size ≤ BK; omega) (.float .f32 1048576000)).setCell (p := ⟨BK, 27, none⟩) (by show w.heap.size ≤ BK; omega) (.float .f32 1040187392))
  have KZf : Hid (BlkL wf w.heap.size [.slice none 0 0, .slice none 0 0, .slice none 0 0, .slice none 0 0, .int .i64 0, .float .f32 0, .float .f32 0, .float .f32 0, .float .f32 0, .float .f32 0, .float .f32 0, .float .f32 0, .float .f32 0, .float .f32 0, .float .f32 0, .float .f32 0, .float .f32 0, .float .f32 0, .float .f32 0, .int .i64 0, .float .f32 0, .float .f32 0, .float .f32 0, .slice none 0 0, .slice none 0 0, .float .f32 0, .float .f32 0, .float .f32 0]) := Lib.hid ((KZk.out.below b).turnS HTW.out (by show ¬ w.heap.size = BK; omega))
  have k23 := ((KKo.below b).2 23 _ rfl).1
  have kq23 := ((KKo.below b).2 23 _ rfl).2
  have k24 := ((KKo.below b).2 24 _ rfl).1
  have kq24 := ((KKo.below b).2 24 _ rfl).2
  have k25 := ((KKo.below b).2 25 _ rfl).1
  have kq25 := ((KKo.below b).2 25 _ rfl).2
  have k26 := ((KKo.below b).2 26 _ rfl).1
  have kq26 := ((KKo.below b).2 26 _ rfl).2
  have k27 := ((KKo.below b).2 27 _ rfl).1
  have kq27 := ((KKo.below b).2 27 _ rfl).2
  clear KKo b hf HRk Bk KZk HTW
  go_upto_region 5 with fail
  rw [← hwf]
  clear hwf k23 kq23 k24 kq24 k25 kq25 k26 kq26 k27 kq27
  have HT : wf.there w.heap.size 0 (#[.slice Q1 ndA.length c1, .slice Q2 ndB.length c2, .slice Q3 ndE.length c3, .slice Q4 ndN c4, .int .i64 ndC, .float .f32 ndH, .float .f32 ndT, .float .f32 1065353216, .float .f32 1092616192, .float .f32 1090519040, .float .f32 1048576000, .float .f32 nq0, .float .f32 nq1, .float .f32 nq2, .float .f32 nq3, .float .f32 nq4, .float .f32 nq5, .float .f32 nq6, .float .f32 nq7, .int .i64 nst, .float .f32 nsp, .float .f32 npi, .float .f32 nen, .slice X ndX.length cx, .slice Y ndY.length cy, .float .f32 1065353216, .float .f32 1048576000, .float .f32 1040187392] : Array Value).size := fun j hj => by
    obtain ⟨v, hv⟩ : ∃ v, ([.slice none 0 0, .slice none 0 0, .slice none 0 0, .slice none 0 0, .int .i64 0, .float .f32 0, .float .f32 0, .float .f32 0, .float .f32 0, .float .f32 0, .float .f32 0, .float .f32 0, .float .f32 0, .float .f32 0, .float .f32 0, .float .f32 0, .float .f32 0, .float .f32 0, .float .f32 0, .int .i64 0, .float .f32 0, .float .f32 0, .float .f32 0, .slice none 0 0, .slice none 0 0, .float .f32 0, .float .f32 0, .float .f32 0] : List Value)[j]? = some v := ⟨_, List.getElem?_eq_getElem (by simpa using hj)⟩
    rw [Nat.zero_add]
    exact ⟨by rw [(KZf.out.2 j v hv).1]; rfl, (KZf.out.2 j v hv).2⟩
  obtain ⟨W6, hW6⟩ : ∃ q, q = wf.setCells w.heap.size 0 (#[.slice Q1 ndA.length c1, .slice Q2 ndB.length c2, .slice Q3 ndE.length c3, .slice Q4 ndN c4, .int .i64 ndC, .float .f32 ndH, .float .f32 ndT, .float .f32 1065353216, .float .f32 1092616192, .float .f32 1090519040, .float .f32 1048576000, .float .f32 nq0, .float .f32 nq1, .float .f32 nq2, .float .f32 nq3, .float .f32 nq4, .float .f32 nq5, .float .f32 nq6, .float .f32 nq7, .int .i64 nst, .float .f32 nsp, .float .f32 npi, .float .f32 nen, .slice X ndX.length cx, .slice Y ndY.length cy, .float .f32 1065353216, .float .f32 1048576000, .float .f32 1040187392] : Array Value).toList := ⟨_, rfl⟩
  have hld := run_loadVar_mid (P := Try.prog) _ _ _ _ _ _ (World.rangeAt_setCells_same wf w.heap.size 0 [.slice Q1 ndA.length c1, .slice Q2 ndB.length c2, .slice Q3 ndE.length c3, .slice Q4 ndN c4, .int .i64 ndC, .float .f32 ndH, .float .f32 ndT, .float .f32 1065353216, .float .f32 1092616192, .float .f32 1090519040, .float .f32 1048576000, .float .f32 nq0, .float .f32 nq1, .float .f32 nq2, .float .f32 nq3, .float .f32 nq4, .float .f32 nq5, .float .f32 nq6, .float .f32 nq7, .int .i64 nst, .float .f32 nsp, .float .f32 npi, .float .f32 nen, .slice X ndX.length cx, .slice Y ndY.length cy, .float .f32 1065353216, .float .f32 1048576000, .float .f32 1040187392] (by simpa using HT)) Try.underlying102 rfl (by kernel_rfl)
  have hzp := Zp.out
  have HR6 : Hid (OwnT W6 wp.heap.size Q1 Q2 Q3 Q4 g1 g2 g3 g4 ndA ndB ndE ndS) := Lib.hid (by rw [hW6]; exact setCells_keep (Q := fun W => OwnT W wp.heap.size Q1 Q2 Q3 Q4 g1 g2 g3 g4 ndA ndB ndE ndS) (fun W j v h => h.setT (by show w.heap.size < _; omega) v) _ _ _ HRf.out)
  have HF6 : Hid (OwnR2 W6 wk.heap.size X Y gx gy ndX ndY) := Lib.hid (by rw [hW6]; exact setCells_keep (Q := fun W => OwnR2 W wk.heap.size X Y gx gy ndX ndY) (fun W j v h => h.setM (by show w.heap.size < _; omega) v) _ _ _ HFf.out)
  have B6 : Hid (Below w.heap.size w W6) := Lib.hid (by rw [hW6]; exact setCells_keep (Q := fun W => Below w.heap.size w W) (fun W j v h => h.setCell (by show w.heap.size ≤ w.heap.size; omega) v) _ _ _ Bf.out)
  clear hzp e1
  have HLD := Lib.hid hld
  clear hld
  go_wp2_with (first | (refine wpList_load_mid rfl 102 _ rfl BK 0 rfl [.slice Q1 ndA.length c1, .slice Q2 ndB.length c2, .slice Q3 ndE.length c3, .slice Q4 ndN c4, .int .i64 ndC, .float .f32 ndH, .float .f32 ndT, .float .f32 1065353216, .float .f32 1092616192, .float .f32 1090519040, .float .f32 1048576000, .float .f32 nq0, .float .f32 nq1, .float .f32 nq2, .float .f32 nq3, .float .f32 nq4, .float .f32 nq5, .float .f32 nq6, .float .f32 nq7, .int .i64 nst, .float .f32 nsp, .float .f32 npi, .float .f32 nen, .slice X ndX.length cx, .slice Y ndY.length cy, .float .f32 1065353216, .float .f32 1048576000, .float .f32 1040187392] _ (fun j v hj => by rw [Nat.zero_add]; exact (KKf.out.2 j v hj).1) Try.underlying102 rfl (by kernel_rfl) ?_) | (refine wpList_store_mid rfl 102 _ _ rfl w.heap.size 0 _ rfl rfl HT (by kernel_rfl) (all_oneCell_toArray (by simp [Value.oneCell'])) ?_) | fail)
  rw [← hW6]
  have hld : _ = _ := HLD.out
  rw [show (wf.setCells w.heap.size 0 [.slice Q1 ndA.length c1, .slice Q2 ndB.length c2, .slice Q3 ndE.length c3, .slice Q4 ndN c4, .int .i64 ndC, .float .f32 ndH, .float .f32 ndT, .float .f32 1065353216, .float .f32 1092616192, .float .f32 1090519040, .float .f32 1048576000, .float .f32 nq0, .float .f32 nq1, .float .f32 nq2, .float .f32 nq3, .float .f32 nq4, .float .f32 nq5, .float .f32 nq6, .float .f32 nq7, .int .i64 nst, .float .f32 nsp, .float .f32 npi, .float .f32 nen, .slice X ndX.length cx, .slice Y ndY.length cy, .float .f32 1065353216, .float .f32 1048576000, .float .f32 1040187392]) = W6 from hW6.symm] at hld
  clear HLD hW6 HT
  refine bodyPost_ret (v := .agg #[.slice Q1 ndA.length c1, .slice Q2 ndB.length c2, .slice Q3 ndE.length c3, .slice Q4 ndN c4, .int .i64 ndC, .float .f32 ndH, .float .f32 ndT, .float .f32 1065353216, .float .f32 1092616192, .float .f32 1090519040, .float .f32 1048576000, .float .f32 nq0, .float .f32 nq1, .float .f32 nq2, .float .f32 nq3, .float .f32 nq4, .float .f32 nq5, .float .f32 nq6, .float .f32 nq7, .int .i64 nst, .float .f32 nsp, .float .f32 npi, .float .f32 nen, .slice X ndX.length cx, .slice Y ndY.length cy, .float .f32 1065353216, .float .f32 1048576000, .float .f32 1040187392]) ?_ rfl (by unfold NdPost; exact ⟨Q1, Q2, Q3, Q4, X, Y, c1, c2, c3, c4, cx, cy, g1, g2, g3, g4, gx, gy, wk.heap.size, rfl, HR6.out.baseT (by have := Zp.out; omega), HF6.out, by have := HBK.out; omega, fun b hb => by have h1 := HLT.out b hb; have := HBK.out; omega, B6.out⟩)
  rw [results_cell1 Try.results65]
  show ((asAddr (.pointer (some ⟨w.heap.size, 0, none⟩))).run Try.prog W6).andThen _ = _
  simp only [asAddr, Sem.run_pure, Result.andThen, hld]
set_option maxHeartbeats 8000000 in
theorem l_eqDeskN (u1 u2 u3 u4 u5 u6 v1 v2 v3 v4 v5 v6 : Nat) (A1 L1 D1 S1 A2 L2 D2 S2 : Option Addr) (n : Nat) (c : Int) (hub tip : Nat) (a l d s : List Nat) (e0 e1 e2 e3 : Nat) (p0 p1 p2 p3 p4 p5 p6 p7 : Nat) (st : Int) (sp pi en : Nat) (X1 Y1 X2 Y2 : Option Addr) (fx fy : List Nat) (fr fd fs : Nat) (w : World) (h1 : Rt w A1 L1 D1 S1 a l d s) (h2 : Rt w A2 L2 D2 S2 a l d s) (hn : FewR a l d s n) (f1 : Rs w X1 Y1 fx fy) (f2 : Rs w X2 Y2 fx fy) (hf : FewS fx fy) :
    Calls Try.prog 64 #[.agg #[.slice A1 a.length u1, .slice L1 l.length u2, .slice D1 d.length u3, .slice S1 n u4, .int .i64 c, .float .f32 hub, .float .f32 tip, .float .f32 e0, .float .f32 e1, .float .f32 e2, .float .f32 e3, .float .f32 p0, .float .f32 p1, .float .f32 p2, .float .f32 p3, .float .f32 p4, .float .f32 p5, .float .f32 p6, .float .f32 p7, .int .i64 st, .float .f32 sp, .float .f32 pi, .float .f32 en, .slice X1 fx.length u5, .slice Y1 fy.length u6, .float .f32 fr, .float .f32 fd, .float .f32 fs], .agg #[.slice A2 a.length v1, .slice L2 l.length v2, .slice D2 d.length v3, .slice S2 n v4, .int .i64 c, .float .f32 hub, .float .f32 tip, .float .f32 e0, .float .f32 e1, .float .f32 e2, .float .f32 e3, .float .f32 p0, .float .f32 p1, .float .f32 p2, .float .f32 p3, .float .f32 p4, .float .f32 p5, .float .f32 p6, .float .f32 p7, .int .i64 st, .float .f32 sp, .float .f32 pi, .float .f32 en, .slice X2 fx.length v5, .slice Y2 fy.length v6, .float .f32 fr, .float .f32 fd, .float .f32 fs]] w fun e w' => e = .returned (.bool true) ∧ Below w.heap.size w w' := by
  have H1 := Lib.hid h1; clear h1
  have H2 := Lib.hid h2; clear h2
  have HN := Lib.hid hn; clear hn
  have F1 := Lib.hid f1; clear f1
  have F2 := Lib.hid f2; clear f2
  have HF := Lib.hid hf; clear hf
  obtain ⟨w0, hw0⟩ : ∃ x, x = (w.alloc (.cells #[.slice A1 a.length u1, .slice L1 l.length u2, .slice D1 d.length u3, .slice S1 n u4, .int .i64 c, .float .f32 hub, .float .f32 tip, .float .f32 e0, .float .f32 e1, .float .f32 e2, .float .f32 e3, .float .f32 p0, .float .f32 p1, .float .f32 p2, .float .f32 p3, .float .f32 p4, .float .f32 p5, .float .f32 p6, .float .f32 p7, .int .i64 st, .float .f32 sp, .float .f32 pi, .float .f32 en, .slice X1 fx.length u5, .slice Y1 fy.length u6, .float .f32 fr, .float .f32 fd, .float .f32 fs] 102)).alloc (.cells #[.slice A2 a.length v1, .slice L2 l.length v2, .slice D2 d.length v3, .slice S2 n v4, .int .i64 c, .float .f32 hub, .float .f32 tip, .float .f32 e0, .float .f32 e1, .float .f32 e2, .float .f32 e3, .float .f32 p0, .float .f32 p1, .float .f32 p2, .float .f32 p3, .float .f32 p4, .float .f32 p5, .float .f32 p6, .float .f32 p7, .int .i64 st, .float .f32 sp, .float .f32 pi, .float .f32 en, .slice X2 fx.length v5, .slice Y2 fy.length v6, .float .f32 fr, .float .f32 fd, .float .f32 fs] 102) := ⟨_, rfl⟩
  have B0 : Hid (Below w.heap.size w w0) := Lib.hid (by rw [hw0]; exact ((Below.refl _ _).alloc (Nat.le_refl _) _).alloc (by simp) _)
  have K0 : Hid (BlkL w0 w.heap.size [.slice A1 a.length u1, .slice L1 l.length u2, .slice D1 d.length u3, .slice S1 n u4, .int .i64 c, .float .f32 hub, .float .f32 tip, .float .f32 e0, .float .f32 e1, .float .f32 e2, .float .f32 e3, .float .f32 p0, .float .f32 p1, .float .f32 p2, .float .f32 p3, .float .f32 p4, .float .f32 p5, .float .f32 p6, .float .f32 p7, .int .i64 st, .float .f32 sp, .float .f32 pi, .float .f32 en, .slice X1 fx.length u5, .slice Y1 fy.length u6, .float .f32 fr, .float .f32 fd, .float .f32 fs]) := Lib.hid (by rw [hw0]; exact (blkL_at w #[.slice A1 a.length u1, .slice L1 l.length u2, .slice D1 d.length u3, .slice S1 n u4, .int .i64 c, .float .f32 hub, .float .f32 tip, .float .f32 e0, .float .f32 e1, .float .f32 e2, .float .f32 e3, .float .f32 p0, .float .f32 p1, .float .f32 p2, .float .f32 p3, .float .f32 p4, .float .f32 p5, .float .f32 p6, .float .f32 p7, .int .i64 st, .float .f32 sp, .float .f32 pi, .float .f32 en, .slice X1 fx.length u5, .slice Y1 fy.length u6, .float .f32 fr, .float .f32 fd, .float .f32 fs] _ rfl).alloc _)
  have M0 : Hid (BlkL w0 (w.heap.size + 1) [.slice A2 a.length v1, .slice L2 l.length v2, .slice D2 d.length v3, .slice S2 n v4, .int .i64 c, .float .f32 hub, .float .f32 tip, .float .f32 e0, .float .f32 e1, .float .f32 e2, .float .f32 e3, .float .f32 p0, .float .f32 p1, .float .f32 p2, .float .f32 p3, .float .f32 p4, .float .f32 p5, .float .f32 p6, .float .f32 p7, .int .i64 st, .float .f32 sp, .float .f32 pi, .float .f32 en, .slice X2 fx.length v5, .slice Y2 fy.length v6, .float .f32 fr, .float .f32 fd, .float .f32 fs]) := Lib.hid (by rw [hw0]; exact blkL_at (w.alloc _) #[.slice A2 a.length v1, .slice L2 l.length v2, .slice D2 d.length v3, .slice S2 n v4, .int .i64 c, .float .f32 hub, .float .f32 tip, .float .f32 e0, .float .f32 e1, .float .f32 e2, .float .f32 e3, .float .f32 p0, .float .f32 p1, .float .f32 p2, .float .f32 p3, .float .f32 p4, .float .f32 p5, .float .f32 p6, .float .f32 p7, .int .i64 st, .float .f32 sp, .float .f32 pi, .float .f32 en, .slice X2 fx.length v5, .slice Y2 fy.length v6, .float .f32 fr, .float .f32 fd, .float .f32 fs] _ (by simp))
  go_enter Try.func64, Try.ntmps64
  go_wp2_with fail
  rw [← hw0]
  clear hw0
  have k0 := (K0.out.2 0 _ rfl).1
  have k1 := (K0.out.2 1 _ rfl).1
  have k2 := (K0.out.2 2 _ rfl).1
  have k3 := (K0.out.2 3 _ rfl).1
  have k4 := (K0.out.2 4 _ rfl).1
  have k5 := (K0.out.2 5 _ rfl).1
  have k6 := (K0.out.2 6 _ rfl).1
  have m0 := (M0.out.2 0 _ rfl).1
  have m1 := (M0.out.2 1 _ rfl).1
  have m2 := (M0.out.2 2 _ rfl).1
  have m3 := (M0.out.2 3 _ rfl).1
  have m4 := (M0.out.2 4 _ rfl).1
  have m5 := (M0.out.2 5 _ rfl).1
  have m6 := (M0.out.2 6 _ rfl).1
  go_wp2_with fail
  refine (l_eqRotor A1 L1 D1 S1 A2 L2 D2 S2 _ _ _ _ _ _ n _ _ c hub tip a l d s _ (H1.out.below B0.out) (H2.out.below B0.out) HN.out).mono ?_
  rintro e w1 ⟨rfl, b⟩
  have B1 : Hid (Below w.heap.size w w1) := Lib.hid (below_of B0.out B0.out.size b)
  have K1 : Hid (BlkL w1 w.heap.size [.slice A1 a.length u1, .slice L1 l.length u2, .slice D1 d.length u3, .slice S1 n u4, .int .i64 c, .float .f32 hub, .float .f32 tip, .float .f32 e0, .float .f32 e1, .float .f32 e2, .float .f32 e3, .float .f32 p0, .float .f32 p1, .float .f32 p2, .float .f32 p3, .float .f32 p4, .float .f32 p5, .float .f32 p6, .float .f32 p7, .int .i64 st, .float .f32 sp, .float .f32 pi, .float .f32 en, .slice X1 fx.length u5, .slice Y1 fy.length u6, .float .f32 fr, .float .f32 fd, .float .f32 fs]) := Lib.hid (K0.out.below b)
  have M1 : Hid (BlkL w1 (w.heap.size + 1) [.slice A2 a.length v1, .slice L2 l.length v2, .slice D2 d.length v3, .slice S2 n v4, .int .i64 c, .float .f32 hub, .float .f32 tip, .float .f32 e0, .float .f32 e1, .float .f32 e2, .float .f32 e3, .float .f32 p0, .float .f32 p1, .float .f32 p2, .float .f32 p3, .float .f32 p4, .float .f32 p5, .float .f32 p6, .float .f32 p7, .int .i64 st, .float .f32 sp, .float .f32 pi, .float .f32 en, .slice X2 fx.length v5, .slice Y2 fy.length v6, .float .f32 fr, .float .f32 fd, .float .f32 fs]) := Lib.hid (M0.out.below b)
  clear b K0 M0
  clear k0 m0 k1 m1 k2 m2 k3 m3 k4 m4 k5 m5 k6 m6
  have k7 := (K1.out.2 7 _ rfl).1
  have k8 := (K1.out.2 8 _ rfl).1
  have k9 := (K1.out.2 9 _ rfl).1
  have k10 := (K1.out.2 10 _ rfl).1
  have m7 := (M1.out.2 7 _ rfl).1
  have m8 := (M1.out.2 8 _ rfl).1
  have m9 := (M1.out.2 9 _ rfl).1
  have m10 := (M1.out.2 10 _ rfl).1
  go_wp2_with fail
  refine (l_eqAir e0 e1 e2 e3 _).mono ?_
  rintro e w2 ⟨rfl, b⟩
  have B2 : Hid (Below w.heap.size w w2) := Lib.hid (below_of B1.out B1.out.size b)
  have K2 : Hid (BlkL w2 w.heap.size [.slice A1 a.length u1, .slice L1 l.length u2, .slice D1 d.length u3, .slice S1 n u4, .int .i64 c, .float .f32 hub, .float .f32 tip, .float .f32 e0, .float .f32 e1, .float .f32 e2, .float .f32 e3, .float .f32 p0, .float .f32 p1, .float .f32 p2, .float .f32 p3, .float .f32 p4, .float .f32 p5, .float .f32 p6, .float .f32 p7, .int .i64 st, .float .f32 sp, .float .f32 pi, .float .f32 en, .slice X1 fx.length u5, .slice Y1 fy.length u6, .float .f32 fr, .float .f32 fd, .float .f32 fs]) := Lib.hid (K1.out.below b)
  have M2 : Hid (BlkL w2 (w.heap.size + 1) [.slice A2 a.length v1, .slice L2 l.length v2, .slice D2 d.length v3, .slice S2 n v4, .int .i64 c, .float .f32 hub, .float .f32 tip, .float .f32 e0, .float .f32 e1, .float .f32 e2, .float .f32 e3, .float .f32 p0, .float .f32 p1, .float .f32 p2, .float .f32 p3, .float .f32 p4, .float .f32 p5, .float .f32 p6, .float .f32 p7, .int .i64 st, .float .f32 sp, .float .f32 pi, .float .f32 en, .slice X2 fx.length v5, .slice Y2 fy.length v6, .float .f32 fr, .float .f32 fd, .float .f32 fs]) := Lib.hid (M1.out.below b)
  clear b K1 M1
  clear k7 m7 k8 m8 k9 m9 k10 m10
  have k11 := (K2.out.2 11 _ rfl).1
  have k12 := (K2.out.2 12 _ rfl).1
  have k13 := (K2.out.2 13 _ rfl).1
  have k14 := (K2.out.2 14 _ rfl).1
  have k15 := (K2.out.2 15 _ rfl).1
  have k16 := (K2.out.2 16 _ rfl).1
  have k17 := (K2.out.2 17 _ rfl).1
  have k18 := (K2.out.2 18 _ rfl).1
  have k19 := (K2.out.2 19 _ rfl).1
  have k20 := (K2.out.2 20 _ rfl).1
  have k21 := (K2.out.2 21 _ rfl).1
  have k22 := (K2.out.2 22 _ rfl).1
  have m11 := (M2.out.2 11 _ rfl).1
  have m12 := (M2.out.2 12 _ rfl).1
  have m13 := (M2.out.2 13 _ rfl).1
  have m14 := (M2.out.2 14 _ rfl).1
  have m15 := (M2.out.2 15 _ rfl).1
  have m16 := (M2.out.2 16 _ rfl).1
  have m17 := (M2.out.2 17 _ rfl).1
  have m18 := (M2.out.2 18 _ rfl).1
  have m19 := (M2.out.2 19 _ rfl).1
  have m20 := (M2.out.2 20 _ rfl).1
  have m21 := (M2.out.2 21 _ rfl).1
  have m22 := (M2.out.2 22 _ rfl).1
  go_wp2_with fail
  refine (l_eqDrive p0 p1 p2 p3 p4 p5 p6 p7 st sp pi en p0 p1 p2 p3 p4 p5 p6 p7 st sp pi en _ ⟨rfl, rfl, rfl, rfl, rfl, rfl, rfl, rfl⟩ rfl ⟨rfl, rfl, rfl⟩).mono ?_
  rintro e w3 ⟨rfl, b⟩
  have B3 : Hid (Below w.heap.size w w3) := Lib.hid (below_of B2.out B2.out.size b)
  have K3 : Hid (BlkL w3 w.heap.size [.slice A1 a.length u1, .slice L1 l.length u2, .slice D1 d.length u3, .slice S1 n u4, .int .i64 c, .float .f32 hub, .float .f32 tip, .float .f32 e0, .float .f32 e1, .float .f32 e2, .float .f32 e3, .float .f32 p0, .float .f32 p1, .float .f32 p2, .float .f32 p3, .float .f32 p4, .float .f32 p5, .float .f32 p6, .float .f32 p7, .int .i64 st, .float .f32 sp, .float .f32 pi, .float .f32 en, .slice X1 fx.length u5, .slice Y1 fy.length u6, .float .f32 fr, .float .f32 fd, .float .f32 fs]) := Lib.hid (K2.out.below b)
  have M3 : Hid (BlkL w3 (w.heap.size + 1) [.slice A2 a.length v1, .slice L2 l.length v2, .slice D2 d.length v3, .slice S2 n v4, .int .i64 c, .float .f32 hub, .float .f32 tip, .float .f32 e0, .float .f32 e1, .float .f32 e2, .float .f32 e3, .float .f32 p0, .float .f32 p1, .float .f32 p2, .float .f32 p3, .float .f32 p4, .float .f32 p5, .float .f32 p6, .float .f32 p7, .int .i64 st, .float .f32 sp, .float .f32 pi, .float .f32 en, .slice X2 fx.length v5, .slice Y2 fy.length v6, .float .f32 fr, .float .f32 fd, .float .f32 fs]) := Lib.hid (M2.out.below b)
  clear b K2 M2
  clear k11 m11 k12 m12 k13 m13 k14 m14 k15 m15 k16 m16 k17 m17 k18 m18 k19 m19 k20 m20 k21 m21 k22 m22
  have k23 := (K3.out.2 23 _ rfl).1
  have k24 := (K3.out.2 24 _ rfl).1
  have k25 := (K3.out.2 25 _ rfl).1
  have k26 := (K3.out.2 26 _ rfl).1
  have k27 := (K3.out.2 27 _ rfl).1
  have m23 := (M3.out.2 23 _ rfl).1
  have m24 := (M3.out.2 24 _ rfl).1
  have m25 := (M3.out.2 25 _ rfl).1
  have m26 := (M3.out.2 26 _ rfl).1
  have m27 := (M3.out.2 27 _ rfl).1
  go_wp2_with fail
  refine (l_eqFarm X1 Y1 X2 Y2 _ _ _ _ fx fy fr fd fs fr fd fs _ (F1.out.below B3.out) (F2.out.below B3.out) HF.out rfl rfl rfl).mono ?_
  rintro e w4 ⟨rfl, b⟩
  have B4 : Hid (Below w.heap.size w w4) := Lib.hid (below_of B3.out B3.out.size b)
  have K4 : Hid (BlkL w4 w.heap.size [.slice A1 a.length u1, .slice L1 l.length u2, .slice D1 d.length u3, .slice S1 n u4, .int .i64 c, .float .f32 hub, .float .f32 tip, .float .f32 e0, .float .f32 e1, .float .f32 e2, .float .f32 e3, .float .f32 p0, .float .f32 p1, .float .f32 p2, .float .f32 p3, .float .f32 p4, .float .f32 p5, .float .f32 p6, .float .f32 p7, .int .i64 st, .float .f32 sp, .float .f32 pi, .float .f32 en, .slice X1 fx.length u5, .slice Y1 fy.length u6, .float .f32 fr, .float .f32 fd, .float .f32 fs]) := Lib.hid (K3.out.below b)
  have M4 : Hid (BlkL w4 (w.heap.size + 1) [.slice A2 a.length v1, .slice L2 l.length v2, .slice D2 d.length v3, .slice S2 n v4, .int .i64 c, .float .f32 hub, .float .f32 tip, .float .f32 e0, .float .f32 e1, .float .f32 e2, .float .f32 e3, .float .f32 p0, .float .f32 p1, .float .f32 p2, .float .f32 p3, .float .f32 p4, .float .f32 p5, .float .f32 p6, .float .f32 p7, .int .i64 st, .float .f32 sp, .float .f32 pi, .float .f32 en, .slice X2 fx.length v5, .slice Y2 fy.length v6, .float .f32 fr, .float .f32 fd, .float .f32 fs]) := Lib.hid (M3.out.below b)
  clear b K3 M3
  clear k23 m23 k24 m24 k25 m25 k26 m26 k27 m27
  go_wp2
  go_ret
  exact ⟨rfl, B4.out⟩
theorem nd_small : ndA.length + ndB.length + ndE.length + 3 * ndN ≤ 1000 ∧ ndX.length + ndY.length ≤ 1000 := by
  refine ⟨?_, ?_⟩
  · unfold ndA ndB ndE ndN
    cases ndO
    · simp [gLp, gN]
    · simp only [gLp, gN, if_true, pltA_length, pltB_length, pltE_length]; omega
  · unfold ndX ndY
    rw [rowX_length, rowY_length]; decide
set_option maxHeartbeats 16000000 in
set_option maxRecDepth 100000 in
theorem law_FnExactNewDesk (w : World) : Calls Try.prog 14 #[] w fun e w' => e = .returned (.bool true) ∧ Below w.heap.size w w' := by
  have nd_fewS : FewS ndX ndY := by unfold FewS; have := nd_small; omega
  have HS := Lib.hid nd_fewS
  go_enter Try.func14, Try.ntmps14
  go_wp2_with fail
  refine (s_NewDesk _).mono ?_
  rintro e wcs hpost
  unfold NdPost at hpost
  obtain ⟨Rs1, Rs2, Rs3, Rs4, Xs, Ys, cs1, cs2, cs3, cs4, csx, csy, gs1, gs2, gs3, gs4, gsx, gsy, BBs, rfl, ho, hf, hb1, hlt, b⟩ := hpost
  have B1 : Hid (Below w.heap.size w wcs) := Lib.hid (b)
  have Z1 : Hid (w.heap.size ≤ wcs.heap.size) := Lib.hid b.size
  have Ts : Hid (OwnT wcs w.heap.size Rs1 Rs2 Rs3 Rs4 gs1 gs2 gs3 gs4 ndA ndB ndE ndS) := Lib.hid (ho)
  have Fs : Hid (OwnR2 wcs BBs Xs Ys gsx gsy ndX ndY) := Lib.hid (hf)
  have HLs := Lib.hid hlt
  have HBs := Lib.hid hb1
  have Tsbd := Ts
  have Fsbd := Fs
  clear ho hf hlt hb1 b
  obtain ⟨BKs, hBK⟩ : ∃ q, q = wcs.heap.size := ⟨_, rfl⟩
  have HKZ : Hid (BlkL (wcs.alloc (.cells #[.slice none 0 0, .slice none 0 0, .slice none 0 0, .slice none 0 0, .int .i64 0, .float .f32 0, .float .f32 0, .float .f32 0, .float .f32 0, .float .f32 0, .float .f32 0, .float .f32 0, .float .f32 0, .float .f32 0, .float .f32 0, .float .f32 0, .float .f32 0, .float .f32 0, .float .f32 0, .int .i64 0, .float .f32 0, .float .f32 0, .float .f32 0, .slice none 0 0, .slice none 0 0, .float .f32 0, .float .f32 0, .float .f32 0] 102)) BKs [.slice none 0 0, .slice none 0 0, .slice none 0 0, .slice none 0 0, .int .i64 0, .float .f32 0, .float .f32 0, .float .f32 0, .float .f32 0, .float .f32 0, .float .f32 0, .float .f32 0, .float .f32 0, .float .f32 0, .float .f32 0, .float .f32 0, .float .f32 0, .float .f32 0, .float .f32 0, .int .i64 0, .float .f32 0, .float .f32 0, .float .f32 0, .slice none 0 0, .slice none 0 0, .float .f32 0, .float .f32 0, .float .f32 0]) := Lib.hid (by rw [hBK]; exact blkL_at wcs #[.slice none 0 0, .slice none 0 0, .slice none 0 0, .slice none 0 0, .int .i64 0, .float .f32 0, .float .f32 0, .float .f32 0, .float .f32 0, .float .f32 0, .float .f32 0, .float .f32 0, .float .f32 0, .float .f32 0, .float .f32 0, .float .f32 0, .float .f32 0, .float .f32 0, .float .f32 0, .int .i64 0, .float .f32 0, .float .f32 0, .float .f32 0, .slice none 0 0, .slice none 0 0, .float .f32 0, .float .f32 0, .float .f32 0] _ rfl)
  have HT : (wcs.alloc (.cells #[.slice none 0 0, .slice none 0 0, .slice none 0 0, .slice none 0 0, .int .i64 0, .float .f32 0, .float .f32 0, .float .f32 0, .float .f32 0, .float .f32 0, .float .f32 0, .float .f32 0, .float .f32 0, .float .f32 0, .float .f32 0, .float .f32 0, .float .f32 0, .float .f32 0, .float .f32 0, .int .i64 0, .float .f32 0, .float .f32 0, .float .f32 0, .slice none 0 0, .slice none 0 0, .float .f32 0, .float .f32 0, .float .f32 0] 102)).there wcs.heap.size 0 (#[.slice Rs1 ndA.length cs1, .slice Rs2 ndB.length cs2, .slice Rs3 ndE.length cs3, .slice Rs4 ndN cs4, .int .i64 ndC, .float .f32 ndH, .float .f32 ndT, .float .f32 1065353216, .float .f32 1092616192, .float .f32 1090519040, .float .f32 1048576000, .float .f32 nq0, .float .f32 nq1, .float .f32 nq2, .float .f32 nq3, .float .f32 nq4, .float .f32 nq5, .float .f32 nq6, .float .f32 nq7, .int .i64 nst, .float .f32 nsp, .float .f32 npi, .float .f32 nen, .slice Xs ndX.length csx, .slice Ys ndY.length csy, .float .f32 1065353216, .float .f32 1048576000, .float .f32 1040187392] : Array Value).size := fun j hj => by
    obtain ⟨v, hv⟩ : ∃ v, ([.slice none 0 0, .slice none 0 0, .slice none 0 0, .slice none 0 0, .int .i64 0, .float .f32 0, .float .f32 0, .float .f32 0, .float .f32 0, .float .f32 0, .float .f32 0, .float .f32 0, .float .f32 0, .float .f32 0, .float .f32 0, .float .f32 0, .float .f32 0, .float .f32 0, .float .f32 0, .int .i64 0, .float .f32 0, .float .f32 0, .float .f32 0, .slice none 0 0, .slice none 0 0, .float .f32 0, .float .f32 0, .float .f32 0] : List Value)[j]? = some v := ⟨_, List.getElem?_eq_getElem (by simpa using hj)⟩
    rw [Nat.zero_add, ← hBK]
    exact ⟨by rw [(HKZ.out.2 j v hv).1]; rfl, (HKZ.out.2 j v hv).2⟩
  obtain ⟨wks, hwk⟩ : ∃ q, q = (wcs.alloc (.cells #[.slice none 0 0, .slice none 0 0, .slice none 0 0, .slice none 0 0, .int .i64 0, .float .f32 0, .float .f32 0, .float .f32 0, .float .f32 0, .float .f32 0, .float .f32 0, .float .f32 0, .float .f32 0, .float .f32 0, .float .f32 0, .float .f32 0, .float .f32 0, .float .f32 0, .float .f32 0, .int .i64 0, .float .f32 0, .float .f32 0, .float .f32 0, .slice none 0 0, .slice none 0 0, .float .f32 0, .float .f32 0, .float .f32 0] 102)).setCells wcs.heap.size 0 (#[.slice Rs1 ndA.length cs1, .slice Rs2 ndB.length cs2, .slice Rs3 ndE.length cs3, .slice Rs4 ndN cs4, .int .i64 ndC, .float .f32 ndH, .float .f32 ndT, .float .f32 1065353216, .float .f32 1092616192, .float .f32 1090519040, .float .f32 1048576000, .float .f32 nq0, .float .f32 nq1, .float .f32 nq2, .float .f32 nq3, .float .f32 nq4, .float .f32 nq5, .float .f32 nq6, .float .f32 nq7, .int .i64 nst, .float .f32 nsp, .float .f32 npi, .float .f32 nen, .slice Xs ndX.length csx, .slice Ys ndY.length csy, .float .f32 1065353216, .float .f32 1048576000, .float .f32 1040187392] : Array Value).toList := ⟨_, rfl⟩
  have KKo : BlkL wks BKs [.slice Rs1 ndA.length cs1, .slice Rs2 ndB.length cs2, .slice Rs3 ndE.length cs3, .slice Rs4 ndN cs4, .int .i64 ndC, .float .f32 ndH, .float .f32 ndT, .float .f32 1065353216, .float .f32 1092616192, .float .f32 1090519040, .float .f32 1048576000, .float .f32 nq0, .float .f32 nq1, .float .f32 nq2, .float .f32 nq3, .float .f32 nq4, .float .f32 nq5, .float .f32 nq6, .float .f32 nq7, .int .i64 nst, .float .f32 nsp, .float .f32 npi, .float .f32 nen, .slice Xs ndX.length csx, .slice Ys ndY.length csy, .float .f32 1065353216, .float .f32 1048576000, .float .f32 1040187392] := by rw [hwk, ← hBK]; exact blkL_setCellsN HKZ.out rfl
  have b : Below wcs.heap.size wcs wks := by rw [hwk]; exact setCells_keep (Q := fun W => Below wcs.heap.size wcs W) (fun W j v h => h.setCell (by show wcs.heap.size ≤ wcs.heap.size; omega) v) _ _ _ ((Below.refl _ _).alloc (Nat.le_refl _) _)
  have HKs : Hid (BKs = wcs.heap.size ∧ BKs < wks.heap.size) := Lib.hid ⟨hBK, KKo.1⟩
  have B2 : Hid (Below w.heap.size w wks) := Lib.hid (below_of B1.out B1.out.size b)
  have Z2 : Hid (wcs.heap.size ≤ wks.heap.size) := Lib.hid b.size
  have Ts_1 : Hid (OwnT wks w.heap.size Rs1 Rs2 Rs3 Rs4 gs1 gs2 gs3 gs4 ndA ndB ndE ndS) := Lib.hid (Ts.out.below b)
  have Fs_1 : Hid (OwnR2 wks BBs Xs Ys gsx gsy ndX ndY) := Lib.hid (Fs.out.below b)
  clear Ts Fs
  have Ks : Hid (BlkL wks BKs [.slice Rs1 ndA.length cs1, .slice Rs2 ndB.length cs2, .slice Rs3 ndE.length cs3, .slice Rs4 ndN cs4, .int .i64 ndC, .float .f32 ndH, .float .f32 ndT, .float .f32 1065353216, .float .f32 1092616192, .float .f32 1090519040, .float .f32 1048576000, .float .f32 nq0, .float .f32 nq1, .float .f32 nq2, .float .f32 nq3, .float .f32 nq4, .float .f32 nq5, .float .f32 nq6, .float .f32 nq7, .int .i64 nst, .float .f32 nsp, .float .f32 npi, .float .f32 nen, .slice Xs ndX.length csx, .slice Ys ndY.length csy, .float .f32 1065353216, .float .f32 1048576000, .float .f32 1040187392]) := Lib.hid (KKo)
  clear KKo b HKZ
  go_upto_region 2 with (refine wpList_store_mid rfl 102 _ _ rfl wcs.heap.size 0 _ rfl rfl HT (by kernel_rfl) (all_oneCell_toArray (by simp [Value.oneCell'])) ?_)
  rw [← hwk, ← hBK]
  clear hwk hBK HT
  go_wp2_with fail
  refine (i_NewDesk _).mono ?_
  rintro e wcg hpost
  unfold NdPost at hpost
  obtain ⟨Rg1, Rg2, Rg3, Rg4, Xg, Yg, cg1, cg2, cg3, cg4, cgx, cgy, gg1, gg2, gg3, gg4, ggx, ggy, BBg, rfl, ho, hf, hb1, hlt, b⟩ := hpost
  have B3 : Hid (Below w.heap.size w wcg) := Lib.hid (below_of B2.out B2.out.size b)
  have Z3 : Hid (wks.heap.size ≤ wcg.heap.size) := Lib.hid b.size
  have Ts_2 : Hid (OwnT wcg w.heap.size Rs1 Rs2 Rs3 Rs4 gs1 gs2 gs3 gs4 ndA ndB ndE ndS) := Lib.hid (Ts_1.out.below b)
  have Fs_2 : Hid (OwnR2 wcg BBs Xs Ys gsx gsy ndX ndY) := Lib.hid (Fs_1.out.below b)
  have Ks_1 : Hid (BlkL wcg BKs [.slice Rs1 ndA.length cs1, .slice Rs2 ndB.length cs2, .slice Rs3 ndE.length cs3, .slice Rs4 ndN cs4, .int .i64 ndC, .float .f32 ndH, .float .f32 ndT, .float .f32 1065353216, .float .f32 1092616192, .float .f32 1090519040, .float .f32 1048576000, .float .f32 nq0, .float .f32 nq1, .float .f32 nq2, .float .f32 nq3, .float .f32 nq4, .float .f32 nq5, .float .f32 nq6, .float .f32 nq7, .int .i64 nst, .float .f32 nsp, .float .f32 npi, .float .f32 nen, .slice Xs ndX.length csx, .slice Ys ndY.length csy, .float .f32 1065353216, .float .f32 1048576000, .float .f32 1040187392]) := Lib.hid (Ks.out.below b)
  clear Ts_1 Fs_1 Ks
  have Tg : Hid (OwnT wcg wks.heap.size Rg1 Rg2 Rg3 Rg4 gg1 gg2 gg3 gg4 ndA ndB ndE ndS) := Lib.hid (ho)
  have Fg : Hid (OwnR2 wcg BBg Xg Yg ggx ggy ndX ndY) := Lib.hid (hf)
  have HLg := Lib.hid hlt
  have HBg := Lib.hid hb1
  have Tgbd := Tg
  have Fgbd := Fg
  clear ho hf hlt hb1 b
  obtain ⟨BKg, hBK⟩ : ∃ q, q = wcg.heap.size := ⟨_, rfl⟩
  have HKZ : Hid (BlkL (wcg.alloc (.cells #[.slice none 0 0, .slice none 0 0, .slice none 0 0, .slice none 0 0, .int .i64 0, .float .f32 0, .float .f32 0, .float .f32 0, .float .f32 0, .float .f32 0, .float .f32 0, .float .f32 0, .float .f32 0, .float .f32 0, .float .f32 0, .float .f32 0, .float .f32 0, .float .f32 0, .float .f32 0, .int .i64 0, .float .f32 0, .float .f32 0, .float .f32 0, .slice none 0 0, .slice none 0 0, .float .f32 0, .float .f32 0, .float .f32 0] 102)) BKg [.slice none 0 0, .slice none 0 0, .slice none 0 0, .slice none 0 0, .int .i64 0, .float .f32 0, .float .f32 0, .float .f32 0, .float .f32 0, .float .f32 0, .float .f32 0, .float .f32 0, .float .f32 0, .float .f32 0, .float .f32 0, .float .f32 0, .float .f32 0, .float .f32 0, .float .f32 0, .int .i64 0, .float .f32 0, .float .f32 0, .float .f32 0, .slice none 0 0, .slice none 0 0, .float .f32 0, .float .f32 0, .float .f32 0]) := Lib.hid (by rw [hBK]; exact blkL_at wcg #[.slice none 0 0, .slice none 0 0, .slice none 0 0, .slice none 0 0, .int .i64 0, .float .f32 0, .float .f32 0, .float .f32 0, .float .f32 0, .float .f32 0, .float .f32 0, .float .f32 0, .float .f32 0, .float .f32 0, .float .f32 0, .float .f32 0, .float .f32 0, .float .f32 0, .float .f32 0, .int .i64 0, .float .f32 0, .float .f32 0, .float .f32 0, .slice none 0 0, .slice none 0 0, .float .f32 0, .float .f32 0, .float .f32 0] _ rfl)
  have HT : (wcg.alloc (.cells #[.slice none 0 0, .slice none 0 0, .slice none 0 0, .slice none 0 0, .int .i64 0, .float .f32 0, .float .f32 0, .float .f32 0, .float .f32 0, .float .f32 0, .float .f32 0, .float .f32 0, .float .f32 0, .float .f32 0, .float .f32 0, .float .f32 0, .float .f32 0, .float .f32 0, .float .f32 0, .int .i64 0, .float .f32 0, .float .f32 0, .float .f32 0, .slice none 0 0, .slice none 0 0, .float .f32 0, .float .f32 0, .float .f32 0] 102)).there wcg.heap.size 0 (#[.slice Rg1 ndA.length cg1, .slice Rg2 ndB.length cg2, .slice Rg3 ndE.length cg3, .slice Rg4 ndN cg4, .int .i64 ndC, .float .f32 ndH, .float .f32 ndT, .float .f32 1065353216, .float .f32 1092616192, .float .f32 1090519040, .float .f32 1048576000, .float .f32 nq0, .float .f32 nq1, .float .f32 nq2, .float .f32 nq3, .float .f32 nq4, .float .f32 nq5, .float .f32 nq6, .float .f32 nq7, .int .i64 nst, .float .f32 nsp, .float .f32 npi, .float .f32 nen, .slice Xg ndX.length cgx, .slice Yg ndY.length cgy, .float .f32 1065353216, .float .f32 1048576000, .float .f32 1040187392] : Array Value).size := fun j hj => by
    obtain ⟨v, hv⟩ : ∃ v, ([.slice none 0 0, .slice none 0 0, .slice none 0 0, .slice none 0 0, .int .i64 0, .float .f32 0, .float .f32 0, .float .f32 0, .float .f32 0, .float .f32 0, .float .f32 0, .float .f32 0, .float .f32 0, .float .f32 0, .float .f32 0, .float .f32 0, .float .f32 0, .float .f32 0, .float .f32 0, .int .i64 0, .float .f32 0, .float .f32 0, .float .f32 0, .slice none 0 0, .slice none 0 0, .float .f32 0, .float .f32 0, .float .f32 0] : List Value)[j]? = some v := ⟨_, List.getElem?_eq_getElem (by simpa using hj)⟩
    rw [Nat.zero_add, ← hBK]
    exact ⟨by rw [(HKZ.out.2 j v hv).1]; rfl, (HKZ.out.2 j v hv).2⟩
  obtain ⟨wkg, hwk⟩ : ∃ q, q = (wcg.alloc (.cells #[.slice none 0 0, .slice none 0 0, .slice none 0 0, .slice none 0 0, .int .i64 0, .float .f32 0, .float .f32 0, .float .f32 0, .float .f32 0, .float .f32 0, .float .f32 0, .float .f32 0, .float .f32 0, .float .f32 0, .float .f32 0, .float .f32 0, .float .f32 0, .float .f32 0, .float .f32 0, .int .i64 0, .float .f32 0, .float .f32 0, .float .f32 0, .slice none 0 0, .slice none 0 0, .float .f32 0, .float .f32 0, .float .f32 0] 102)).setCells wcg.heap.size 0 (#[.slice Rg1 ndA.length cg1, .slice Rg2 ndB.length cg2, .slice Rg3 ndE.length cg3, .slice Rg4 ndN cg4, .int .i64 ndC, .float .f32 ndH, .float .f32 ndT, .float .f32 1065353216, .float .f32 1092616192, .float .f32 1090519040, .float .f32 1048576000, .float .f32 nq0, .float .f32 nq1, .float .f32 nq2, .float .f32 nq3, .float .f32 nq4, .float .f32 nq5, .float .f32 nq6, .float .f32 nq7, .int .i64 nst, .float .f32 nsp, .float .f32 npi, .float .f32 nen, .slice Xg ndX.length cgx, .slice Yg ndY.length cgy, .float .f32 1065353216, .float .f32 1048576000, .float .f32 1040187392] : Array Value).toList := ⟨_, rfl⟩
  have KKo : BlkL wkg BKg [.slice Rg1 ndA.length cg1, .slice Rg2 ndB.length cg2, .slice Rg3 ndE.length cg3, .slice Rg4 ndN cg4, .int .i64 ndC, .float .f32 ndH, .float .f32 ndT, .float .f32 1065353216, .float .f32 1092616192, .float .f32 1090519040, .float .f32 1048576000, .float .f32 nq0, .float .f32 nq1, .float .f32 nq2, .float .f32 nq3, .float .f32 nq4, .float .f32 nq5, .float .f32 nq6, .float .f32 nq7, .int .i64 nst, .float .f32 nsp, .float .f32 npi, .float .f32 nen, .slice Xg ndX.length cgx, .slice Yg ndY.length cgy, .float .f32 1065353216, .float .f32 1048576000, .float .f32 1040187392] := by rw [hwk, ← hBK]; exact blkL_setCellsN HKZ.out rfl
  have b : Below wcg.heap.size wcg wkg := by rw [hwk]; exact setCells_keep (Q := fun W => Below wcg.heap.size wcg W) (fun W j v h => h.setCell (by show wcg.heap.size ≤ wcg.heap.size; omega) v) _ _ _ ((Below.refl _ _).alloc (Nat.le_refl _) _)
  have HKg : Hid (BKg = wcg.heap.size ∧ BKg < wkg.heap.size) := Lib.hid ⟨hBK, KKo.1⟩
  have B4 : Hid (Below w.heap.size w wkg) := Lib.hid (below_of B3.out B3.out.size b)
  have Z4 : Hid (wcg.heap.size ≤ wkg.heap.size) := Lib.hid b.size
  have Ts_3 : Hid (OwnT wkg w.heap.size Rs1 Rs2 Rs3 Rs4 gs1 gs2 gs3 gs4 ndA ndB ndE ndS) := Lib.hid (Ts_2.out.below b)
  have Fs_3 : Hid (OwnR2 wkg BBs Xs Ys gsx gsy ndX ndY) := Lib.hid (Fs_2.out.below b)
  have Ks_2 : Hid (BlkL wkg BKs [.slice Rs1 ndA.length cs1, .slice Rs2 ndB.length cs2, .slice Rs3 ndE.length cs3, .slice Rs4 ndN cs4, .int .i64 ndC, .float .f32 ndH, .float .f32 ndT, .float .f32 1065353216, .float .f32 1092616192, .float .f32 1090519040, .float .f32 1048576000, .float .f32 nq0, .float .f32 nq1, .float .f32 nq2, .float .f32 nq3, .float .f32 nq4, .float .f32 nq5, .float .f32 nq6, .float .f32 nq7, .int .i64 nst, .float .f32 nsp, .float .f32 npi, .float .f32 nen, .slice Xs ndX.length csx, .slice Ys ndY.length csy, .float .f32 1065353216, .float .f32 1048576000, .float .f32 1040187392]) := Lib.hid (Ks_1.out.below b)
  have Tg_1 : Hid (OwnT wkg wks.heap.size Rg1 Rg2 Rg3 Rg4 gg1 gg2 gg3 gg4 ndA ndB ndE ndS) := Lib.hid (Tg.out.below b)
  have Fg_1 : Hid (OwnR2 wkg BBg Xg Yg ggx ggy ndX ndY) := Lib.hid (Fg.out.below b)
  clear Ts_2 Fs_2 Ks_1 Tg Fg
  have Kg : Hid (BlkL wkg BKg [.slice Rg1 ndA.length cg1, .slice Rg2 ndB.length cg2, .slice Rg3 ndE.length cg3, .slice Rg4 ndN cg4, .int .i64 ndC, .float .f32 ndH, .float .f32 ndT, .float .f32 1065353216, .float .f32 1092616192, .float .f32 1090519040, .float .f32 1048576000, .float .f32 nq0, .float .f32 nq1, .float .f32 nq2, .float .f32 nq3, .float .f32 nq4, .float .f32 nq5, .float .f32 nq6, .float .f32 nq7, .int .i64 nst, .float .f32 nsp, .float .f32 npi, .float .f32 nen, .slice Xg ndX.length cgx, .slice Yg ndY.length cgy, .float .f32 1065353216, .float .f32 1048576000, .float .f32 1040187392]) := Lib.hid (KKo)
  clear KKo b HKZ
  go_upto_region 3 with (refine wpList_store_mid rfl 102 _ _ rfl wcg.heap.size 0 _ rfl rfl HT (by kernel_rfl) (all_oneCell_toArray (by simp [Value.oneCell'])) ?_)
  rw [← hwk, ← hBK]
  clear hwk hBK HT
  go_wp2_with (first | (refine wpList_load_mid rfl 102 _ rfl BKg 0 rfl [.slice Rg1 ndA.length cg1, .slice Rg2 ndB.length cg2, .slice Rg3 ndE.length cg3, .slice Rg4 ndN cg4, .int .i64 ndC, .float .f32 ndH, .float .f32 ndT, .float .f32 1065353216, .float .f32 1092616192, .float .f32 1090519040, .float .f32 1048576000, .float .f32 nq0, .float .f32 nq1, .float .f32 nq2, .float .f32 nq3, .float .f32 nq4, .float .f32 nq5, .float .f32 nq6, .float .f32 nq7, .int .i64 nst, .float .f32 nsp, .float .f32 npi, .float .f32 nen, .slice Xg ndX.length cgx, .slice Yg ndY.length cgy, .float .f32 1065353216, .float .f32 1048576000, .float .f32 1040187392] _ (rngN Kg.out) Try.underlying102 rfl (by kernel_rfl) ?_) | (refine wpList_load_mid rfl 102 _ rfl BKs 0 rfl [.slice Rs1 ndA.length cs1, .slice Rs2 ndB.length cs2, .slice Rs3 ndE.length cs3, .slice Rs4 ndN cs4, .int .i64 ndC, .float .f32 ndH, .float .f32 ndT, .float .f32 1065353216, .float .f32 1092616192, .float .f32 1090519040, .float .f32 1048576000, .float .f32 nq0, .float .f32 nq1, .float .f32 nq2, .float .f32 nq3, .float .f32 nq4, .float .f32 nq5, .float .f32 nq6, .float .f32 nq7, .int .i64 nst, .float .f32 nsp, .float .f32 npi, .float .f32 nen, .slice Xs ndX.length csx, .slice Ys ndY.length csy, .float .f32 1065353216, .float .f32 1048576000, .float .f32 1040187392] _ (rngN Ks_2.out) Try.underlying102 rfl (by kernel_rfl) ?_) | fail)
  refine (l_eqDeskN _ _ _ _ _ _ _ _ _ _ _ _ _ _ _ _ _ _ _ _ ndN ndC ndH ndT ndA ndB ndE ndS _ _ _ _ _ _ _ _ _ _ _ _ _ _ _ _ _ _ _ _ ndX ndY _ _ _ _ Tg_1.out.rt Ts_3.out.rt nd_few Fg_1.out.fl Fs_3.out.fl nd_fewS).mono ?_
  rintro e wd5 ⟨rfl, b⟩
  have B5 : Hid (Below w.heap.size w wd5) := Lib.hid (below_of B4.out B4.out.size b)
  have Z5 : Hid (wkg.heap.size ≤ wd5.heap.size) := Lib.hid b.size
  have Ts_4 : Hid (OwnT wd5 w.heap.size Rs1 Rs2 Rs3 Rs4 gs1 gs2 gs3 gs4 ndA ndB ndE ndS) := Lib.hid (Ts_3.out.below b)
  have Fs_4 : Hid (OwnR2 wd5 BBs Xs Ys gsx gsy ndX ndY) := Lib.hid (Fs_3.out.below b)
  have Ks_3 : Hid (BlkL wd5 BKs [.slice Rs1 ndA.length cs1, .slice Rs2 ndB.length cs2, .slice Rs3 ndE.length cs3, .slice Rs4 ndN cs4, .int .i64 ndC, .float .f32 ndH, .float .f32 ndT, .float .f32 1065353216, .float .f32 1092616192, .float .f32 1090519040, .float .f32 1048576000, .float .f32 nq0, .float .f32 nq1, .float .f32 nq2, .float .f32 nq3, .float .f32 nq4, .float .f32 nq5, .float .f32 nq6, .float .f32 nq7, .int .i64 nst, .float .f32 nsp, .float .f32 npi, .float .f32 nen, .slice Xs ndX.length csx, .slice Ys ndY.length csy, .float .f32 1065353216, .float .f32 1048576000, .float .f32 1040187392]) := Lib.hid (Ks_2.out.below b)
  have Tg_2 : Hid (OwnT wd5 wks.heap.size Rg1 Rg2 Rg3 Rg4 gg1 gg2 gg3 gg4 ndA ndB ndE ndS) := Lib.hid (Tg_1.out.below b)
  have Fg_2 : Hid (OwnR2 wd5 BBg Xg Yg ggx ggy ndX ndY) := Lib.hid (Fg_1.out.below b)
  have Kg_1 : Hid (BlkL wd5 BKg [.slice Rg1 ndA.length cg1, .slice Rg2 ndB.length cg2, .slice Rg3 ndE.length cg3, .slice Rg4 ndN cg4, .int .i64 ndC, .float .f32 ndH, .float .f32 ndT, .float .f32 1065353216, .float .f32 1092616192, .float .f32 1090519040, .float .f32 1048576000, .float .f32 nq0, .float .f32 nq1, .float .f32 nq2, .float .f32 nq3, .float .f32 nq4, .float .f32 nq5, .float .f32 nq6, .float .f32 nq7, .int .i64 nst, .float .f32 nsp, .float .f32 npi, .float .f32 nen, .slice Xg ndX.length cgx, .slice Yg ndY.length cgy, .float .f32 1065353216, .float .f32 1048576000, .float .f32 1040187392]) := Lib.hid (Kg.out.below b)
  clear Ts_3 Fs_3 Ks_2 Tg_1 Fg_1 Kg
  clear b
  go_wp2_with (first | (refine wpList_load_mid rfl 102 _ rfl BKg 0 rfl [.slice Rg1 ndA.length cg1, .slice Rg2 ndB.length cg2, .slice Rg3 ndE.length cg3, .slice Rg4 ndN cg4, .int .i64 ndC, .float .f32 ndH, .float .f32 ndT, .float .f32 1065353216, .float .f32 1092616192, .float .f32 1090519040, .float .f32 1048576000, .float .f32 nq0, .float .f32 nq1, .float .f32 nq2, .float .f32 nq3, .float .f32 nq4, .float .f32 nq5, .float .f32 nq6, .float .f32 nq7, .int .i64 nst, .float .f32 nsp, .float .f32 npi, .float .f32 nen, .slice Xg ndX.length cgx, .slice Yg ndY.length cgy, .float .f32 1065353216, .float .f32 1048576000, .float .f32 1040187392] _ (rngN Kg_1.out) Try.underlying102 rfl (by kernel_rfl) ?_) | fail)
  refine (l_markDesk _ _ _ _ _ _ _ _ _ _ _ _ ndN ndC ndH ndT _ _ _ _ _ _ _ _ _ _ _ _ _ _ _ _ _ _ _ ndA ndB ndE ndS ndX ndY _ _ _ _ _ _ _ _ 1 _ Tg_2.out nd_few Fg_2.out (by have := nd_small; omega) HLg.out (by omega) (by have := nd_small; omega) _ rfl).mono ?_
  rintro e wd6 ⟨rfl, om, of, t⟩
  have MBD : Hid (∀ b, (SRt ndA ndB ndE ndS gg1 gg2 gg3 gg4 b ∨ SR ndX ndY ggx ggy b) → BKs < b ∧ wks.heap.size ≤ b ∧ b < BKg) := Lib.hid (fun b hh => by
    have := Z1.out; have := Z2.out; have := HKs.out; have := Z3.out; have := Z4.out; have := HKg.out; have := Z5.out
    have hb := HBg.out
    rcases hh with hh | hh
    · have h1 := Tgbd.out.bd hh; omega
    · have h1 := Fgbd.out.bd hh; omega)
  have Z6 : Hid (wd5.heap.size ≤ wd6.heap.size) := Lib.hid t.1
  have Ts_5 : Hid (OwnT wd6 w.heap.size Rs1 Rs2 Rs3 Rs4 gs1 gs2 gs3 gs4 ndA ndB ndE ndS) := Lib.hid (Ts_4.out.turnS t (by intro c hc hh; have := Z1.out; have := Z2.out; have := HKs.out; have := Z3.out; have := Z4.out; have := HKg.out; have := Z5.out; have := Z6.out; have h1 := MBD.out _ hh; have h2 := Tsbd.out.bd hc; omega))
  have Fs_5 : Hid (OwnR2 wd6 BBs Xs Ys gsx gsy ndX ndY) := Lib.hid (Fs_4.out.turnS t (by intro c hc hh; have := Z1.out; have := Z2.out; have := HKs.out; have := Z3.out; have := Z4.out; have := HKg.out; have := Z5.out; have := Z6.out; have h1 := MBD.out _ hh; have h2 := Fsbd.out.bd hc; omega))
  have Ks_4 : Hid (BlkL wd6 BKs [.slice Rs1 ndA.length cs1, .slice Rs2 ndB.length cs2, .slice Rs3 ndE.length cs3, .slice Rs4 ndN cs4, .int .i64 ndC, .float .f32 ndH, .float .f32 ndT, .float .f32 1065353216, .float .f32 1092616192, .float .f32 1090519040, .float .f32 1048576000, .float .f32 nq0, .float .f32 nq1, .float .f32 nq2, .float .f32 nq3, .float .f32 nq4, .float .f32 nq5, .float .f32 nq6, .float .f32 nq7, .int .i64 nst, .float .f32 nsp, .float .f32 npi, .float .f32 nen, .slice Xs ndX.length csx, .slice Ys ndY.length csy, .float .f32 1065353216, .float .f32 1048576000, .float .f32 1040187392]) := Lib.hid (Ks_3.out.turnS t (by intro hh; have := Z1.out; have := Z2.out; have := HKs.out; have := Z3.out; have := Z4.out; have := HKg.out; have := Z5.out; have := Z6.out; have h1 := MBD.out _ hh; omega))
  have Kg_2 : Hid (BlkL wd6 BKg [.slice Rg1 ndA.length cg1, .slice Rg2 ndB.length cg2, .slice Rg3 ndE.length cg3, .slice Rg4 ndN cg4, .int .i64 ndC, .float .f32 ndH, .float .f32 ndT, .float .f32 1065353216, .float .f32 1092616192, .float .f32 1090519040, .float .f32 1048576000, .float .f32 nq0, .float .f32 nq1, .float .f32 nq2, .float .f32 nq3, .float .f32 nq4, .float .f32 nq5, .float .f32 nq6, .float .f32 nq7, .int .i64 nst, .float .f32 nsp, .float .f32 npi, .float .f32 nen, .slice Xg ndX.length cgx, .slice Yg ndY.length cgy, .float .f32 1065353216, .float .f32 1048576000, .float .f32 1040187392]) := Lib.hid (Kg_1.out.turnS t (by intro hh; have := Z1.out; have := Z2.out; have := HKs.out; have := Z3.out; have := Z4.out; have := HKg.out; have := Z5.out; have := Z6.out; have h1 := MBD.out _ hh; omega))
  have B6 : Hid (Below w.heap.size w wd6) := Lib.hid (t.2.2.2 w B5.out (by intro b hh; have := Z1.out; have := Z2.out; have := HKs.out; have := Z3.out; have := Z4.out; have := HKg.out; have := Z5.out; have := Z6.out; have h1 := MBD.out b hh; omega))
  clear Ts_4 Fs_4 Ks_3 Kg_1
  rw [nd_few.1] at om
  have TM : Hid (OwnT wd6 wks.heap.size Rg1 Rg2 Rg3 Rg4 gg1 gg2 gg3 gg4 (marks 1 ndA.length) (marks (1 + ndA.length) ndB.length) (marks (1 + ndA.length + ndB.length) ndE.length) (marks (1 + ndA.length + ndB.length + ndE.length) (ndN * 3))) := Lib.hid (om)
  have FM : Hid (OwnR2 wd6 BBg Xg Yg ggx ggy (marks (1 + ndA.length + ndB.length + ndE.length + 3 * ndN) ndX.length) (marks ((1 + ndA.length + ndB.length + ndE.length + 3 * ndN) + ndX.length) ndY.length)) := Lib.hid (of)
  clear om of t
  have hge : (0 : Int) ≤ (((1 + ndA.length + ndB.length + ndE.length + 3 * ndN) : Nat) : Int) + (ndX.length : Int) + (ndY.length : Int) := by omega
  go_wp2_with (first | (refine wpList_load_mid rfl 102 _ rfl BKg 0 rfl [.slice Rg1 ndA.length cg1, .slice Rg2 ndB.length cg2, .slice Rg3 ndE.length cg3, .slice Rg4 ndN cg4, .int .i64 ndC, .float .f32 ndH, .float .f32 ndT, .float .f32 1065353216, .float .f32 1092616192, .float .f32 1090519040, .float .f32 1048576000, .float .f32 nq0, .float .f32 nq1, .float .f32 nq2, .float .f32 nq3, .float .f32 nq4, .float .f32 nq5, .float .f32 nq6, .float .f32 nq7, .int .i64 nst, .float .f32 nsp, .float .f32 npi, .float .f32 nen, .slice Xg ndX.length cgx, .slice Yg ndY.length cgy, .float .f32 1065353216, .float .f32 1048576000, .float .f32 1040187392] _ (rngN Kg_2.out) Try.underlying102 rfl (by kernel_rfl) ?_) | fail)
  refine (l_heldDesk _ _ _ _ _ _ _ _ _ _ _ _ ndN ndC ndH ndT _ _ _ _ _ _ _ _ _ _ _ _ _ _ _ _ _ _ _ ndA.length ndB.length ndE.length ndX.length ndY.length _ _ _ _ _ _ _ _ 1 _ TM.out (by have := nd_small; omega) FM.out (by have := nd_small; omega) (by omega) _ rfl).mono ?_
  rintro e wd7 ⟨rfl, b⟩
  have B7 : Hid (Below w.heap.size w wd7) := Lib.hid (below_of B6.out B6.out.size b)
  have Z7 : Hid (wd6.heap.size ≤ wd7.heap.size) := Lib.hid b.size
  have Ts_6 : Hid (OwnT wd7 w.heap.size Rs1 Rs2 Rs3 Rs4 gs1 gs2 gs3 gs4 ndA ndB ndE ndS) := Lib.hid (Ts_5.out.below b)
  have Fs_6 : Hid (OwnR2 wd7 BBs Xs Ys gsx gsy ndX ndY) := Lib.hid (Fs_5.out.below b)
  have Ks_5 : Hid (BlkL wd7 BKs [.slice Rs1 ndA.length cs1, .slice Rs2 ndB.length cs2, .slice Rs3 ndE.length cs3, .slice Rs4 ndN cs4, .int .i64 ndC, .float .f32 ndH, .float .f32 ndT, .float .f32 1065353216, .float .f32 1092616192, .float .f32 1090519040, .float .f32 1048576000, .float .f32 nq0, .float .f32 nq1, .float .f32 nq2, .float .f32 nq3, .float .f32 nq4, .float .f32 nq5, .float .f32 nq6, .float .f32 nq7, .int .i64 nst, .float .f32 nsp, .float .f32 npi, .float .f32 nen, .slice Xs ndX.length csx, .slice Ys ndY.length csy, .float .f32 1065353216, .float .f32 1048576000, .float .f32 1040187392]) := Lib.hid (Ks_4.out.below b)
  have Kg_3 : Hid (BlkL wd7 BKg [.slice Rg1 ndA.length cg1, .slice Rg2 ndB.length cg2, .slice Rg3 ndE.length cg3, .slice Rg4 ndN cg4, .int .i64 ndC, .float .f32 ndH, .float .f32 ndT, .float .f32 1065353216, .float .f32 1092616192, .float .f32 1090519040, .float .f32 1048576000, .float .f32 nq0, .float .f32 nq1, .float .f32 nq2, .float .f32 nq3, .float .f32 nq4, .float .f32 nq5, .float .f32 nq6, .float .f32 nq7, .int .i64 nst, .float .f32 nsp, .float .f32 npi, .float .f32 nen, .slice Xg ndX.length cgx, .slice Yg ndY.length cgy, .float .f32 1065353216, .float .f32 1048576000, .float .f32 1040187392]) := Lib.hid (Kg_2.out.below b)
  have TM_1 : Hid (OwnT wd7 wks.heap.size Rg1 Rg2 Rg3 Rg4 gg1 gg2 gg3 gg4 (marks 1 ndA.length) (marks (1 + ndA.length) ndB.length) (marks (1 + ndA.length + ndB.length) ndE.length) (marks (1 + ndA.length + ndB.length + ndE.length) (ndN * 3))) := Lib.hid (TM.out.below b)
  have FM_1 : Hid (OwnR2 wd7 BBg Xg Yg ggx ggy (marks (1 + ndA.length + ndB.length + ndE.length + 3 * ndN) ndX.length) (marks ((1 + ndA.length + ndB.length + ndE.length + 3 * ndN) + ndX.length) ndY.length)) := Lib.hid (FM.out.below b)
  clear Ts_5 Fs_5 Ks_4 Kg_2 TM FM
  clear b
  go_wp2_with fail
  refine (i_NewDesk _).mono ?_
  rintro e wch hpost
  unfold NdPost at hpost
  obtain ⟨Rh1, Rh2, Rh3, Rh4, Xh, Yh, ch1, ch2, ch3, ch4, chx, chy, gh1, gh2, gh3, gh4, ghx, ghy, BBh, rfl, ho, hf, hb1, hlt, b⟩ := hpost
  have B8 : Hid (Below w.heap.size w wch) := Lib.hid (below_of B7.out B7.out.size b)
  have Z8 : Hid (wd7.heap.size ≤ wch.heap.size) := Lib.hid b.size
  have Ts_7 : Hid (OwnT wch w.heap.size Rs1 Rs2 Rs3 Rs4 gs1 gs2 gs3 gs4 ndA ndB ndE ndS) := Lib.hid (Ts_6.out.below b)
  have Fs_7 : Hid (OwnR2 wch BBs Xs Ys gsx gsy ndX ndY) := Lib.hid (Fs_6.out.below b)
  have Ks_6 : Hid (BlkL wch BKs [.slice Rs1 ndA.length cs1, .slice Rs2 ndB.length cs2, .slice Rs3 ndE.length cs3, .slice Rs4 ndN cs4, .int .i64 ndC, .float .f32 ndH, .float .f32 ndT, .float .f32 1065353216, .float .f32 1092616192, .float .f32 1090519040, .float .f32 1048576000, .float .f32 nq0, .float .f32 nq1, .float .f32 nq2, .float .f32 nq3, .float .f32 nq4, .float .f32 nq5, .float .f32 nq6, .float .f32 nq7, .int .i64 nst, .float .f32 nsp, .float .f32 npi, .float .f32 nen, .slice Xs ndX.length csx, .slice Ys ndY.length csy, .float .f32 1065353216, .float .f32 1048576000, .float .f32 1040187392]) := Lib.hid (Ks_5.out.below b)
  have Kg_4 : Hid (BlkL wch BKg [.slice Rg1 ndA.length cg1, .slice Rg2 ndB.length cg2, .slice Rg3 ndE.length cg3, .slice Rg4 ndN cg4, .int .i64 ndC, .float .f32 ndH, .float .f32 ndT, .float .f32 1065353216, .float .f32 1092616192, .float .f32 1090519040, .float .f32 1048576000, .float .f32 nq0, .float .f32 nq1, .float .f32 nq2, .float .f32 nq3, .float .f32 nq4, .float .f32 nq5, .float .f32 nq6, .float .f32 nq7, .int .i64 nst, .float .f32 nsp, .float .f32 npi, .float .f32 nen, .slice Xg ndX.length cgx, .slice Yg ndY.length cgy, .float .f32 1065353216, .float .f32 1048576000, .float .f32 1040187392]) := Lib.hid (Kg_3.out.below b)
  have TM_2 : Hid (OwnT wch wks.heap.size Rg1 Rg2 Rg3 Rg4 gg1 gg2 gg3 gg4 (marks 1 ndA.length) (marks (1 + ndA.length) ndB.length) (marks (1 + ndA.length + ndB.length) ndE.length) (marks (1 + ndA.length + ndB.length + ndE.length) (ndN * 3))) := Lib.hid (TM_1.out.below b)
  have FM_2 : Hid (OwnR2 wch BBg Xg Yg ggx ggy (marks (1 + ndA.length + ndB.length + ndE.length + 3 * ndN) ndX.length) (marks ((1 + ndA.length + ndB.length + ndE.length + 3 * ndN) + ndX.length) ndY.length)) := Lib.hid (FM_1.out.below b)
  clear Ts_6 Fs_6 Ks_5 Kg_3 TM_1 FM_1
  have Th : Hid (OwnT wch wd7.heap.size Rh1 Rh2 Rh3 Rh4 gh1 gh2 gh3 gh4 ndA ndB ndE ndS) := Lib.hid (ho)
  have Fh : Hid (OwnR2 wch BBh Xh Yh ghx ghy ndX ndY) := Lib.hid (hf)
  have HLh := Lib.hid hlt
  have HBh := Lib.hid hb1
  have Thbd := Th
  have Fhbd := Fh
  clear ho hf hlt hb1 b
  obtain ⟨BKh, hBK⟩ : ∃ q, q = wch.heap.size := ⟨_, rfl⟩
  have HKZ : Hid (BlkL (wch.alloc (.cells #[.slice none 0 0, .slice none 0 0, .slice none 0 0, .slice none 0 0, .int .i64 0, .float .f32 0, .float .f32 0, .float .f32 0, .float .f32 0, .float .f32 0, .float .f32 0, .float .f32 0, .float .f32 0, .float .f32 0, .float .f32 0, .float .f32 0, .float .f32 0, .float .f32 0, .float .f32 0, .int .i64 0, .float .f32 0, .float .f32 0, .float .f32 0, .slice none 0 0, .slice none 0 0, .float .f32 0, .float .f32 0, .float .f32 0] 102)) BKh [.slice none 0 0, .slice none 0 0, .slice none 0 0, .slice none 0 0, .int .i64 0, .float .f32 0, .float .f32 0, .float .f32 0, .float .f32 0, .float .f32 0, .float .f32 0, .float .f32 0, .float .f32 0, .float .f32 0, .float .f32 0, .float .f32 0, .float .f32 0, .float .f32 0, .float .f32 0, .int .i64 0, .float .f32 0, .float .f32 0, .float .f32 0, .slice none 0 0, .slice none 0 0, .float .f32 0, .float .f32 0, .float .f32 0]) := Lib.hid (by rw [hBK]; exact blkL_at wch #[.slice none 0 0, .slice none 0 0, .slice none 0 0, .slice none 0 0, .int .i64 0, .float .f32 0, .float .f32 0, .float .f32 0, .float .f32 0, .float .f32 0, .float .f32 0, .float .f32 0, .float .f32 0, .float .f32 0, .float .f32 0, .float .f32 0, .float .f32 0, .float .f32 0, .float .f32 0, .int .i64 0, .float .f32 0, .float .f32 0, .float .f32 0, .slice none 0 0, .slice none 0 0, .float .f32 0, .float .f32 0, .float .f32 0] _ rfl)
  have HT : (wch.alloc (.cells #[.slice none 0 0, .slice none 0 0, .slice none 0 0, .slice none 0 0, .int .i64 0, .float .f32 0, .float .f32 0, .float .f32 0, .float .f32 0, .float .f32 0, .float .f32 0, .float .f32 0, .float .f32 0, .float .f32 0, .float .f32 0, .float .f32 0, .float .f32 0, .float .f32 0, .float .f32 0, .int .i64 0, .float .f32 0, .float .f32 0, .float .f32 0, .slice none 0 0, .slice none 0 0, .float .f32 0, .float .f32 0, .float .f32 0] 102)).there wch.heap.size 0 (#[.slice Rh1 ndA.length ch1, .slice Rh2 ndB.length ch2, .slice Rh3 ndE.length ch3, .slice Rh4 ndN ch4, .int .i64 ndC, .float .f32 ndH, .float .f32 ndT, .float .f32 1065353216, .float .f32 1092616192, .float .f32 1090519040, .float .f32 1048576000, .float .f32 nq0, .float .f32 nq1, .float .f32 nq2, .float .f32 nq3, .float .f32 nq4, .float .f32 nq5, .float .f32 nq6, .float .f32 nq7, .int .i64 nst, .float .f32 nsp, .float .f32 npi, .float .f32 nen, .slice Xh ndX.length chx, .slice Yh ndY.length chy, .float .f32 1065353216, .float .f32 1048576000, .float .f32 1040187392] : Array Value).size := fun j hj => by
    obtain ⟨v, hv⟩ : ∃ v, ([.slice none 0 0, .slice none 0 0, .slice none 0 0, .slice none 0 0, .int .i64 0, .float .f32 0, .float .f32 0, .float .f32 0, .float .f32 0, .float .f32 0, .float .f32 0, .float .f32 0, .float .f32 0, .float .f32 0, .float .f32 0, .float .f32 0, .float .f32 0, .float .f32 0, .float .f32 0, .int .i64 0, .float .f32 0, .float .f32 0, .float .f32 0, .slice none 0 0, .slice none 0 0, .float .f32 0, .float .f32 0, .float .f32 0] : List Value)[j]? = some v := ⟨_, List.getElem?_eq_getElem (by simpa using hj)⟩
    rw [Nat.zero_add, ← hBK]
    exact ⟨by rw [(HKZ.out.2 j v hv).1]; rfl, (HKZ.out.2 j v hv).2⟩
  obtain ⟨wkh, hwk⟩ : ∃ q, q = (wch.alloc (.cells #[.slice none 0 0, .slice none 0 0, .slice none 0 0, .slice none 0 0, .int .i64 0, .float .f32 0, .float .f32 0, .float .f32 0, .float .f32 0, .float .f32 0, .float .f32 0, .float .f32 0, .float .f32 0, .float .f32 0, .float .f32 0, .float .f32 0, .float .f32 0, .float .f32 0, .float .f32 0, .int .i64 0, .float .f32 0, .float .f32 0, .float .f32 0, .slice none 0 0, .slice none 0 0, .float .f32 0, .float .f32 0, .float .f32 0] 102)).setCells wch.heap.size 0 (#[.slice Rh1 ndA.length ch1, .slice Rh2 ndB.length ch2, .slice Rh3 ndE.length ch3, .slice Rh4 ndN ch4, .int .i64 ndC, .float .f32 ndH, .float .f32 ndT, .float .f32 1065353216, .float .f32 1092616192, .float .f32 1090519040, .float .f32 1048576000, .float .f32 nq0, .float .f32 nq1, .float .f32 nq2, .float .f32 nq3, .float .f32 nq4, .float .f32 nq5, .float .f32 nq6, .float .f32 nq7, .int .i64 nst, .float .f32 nsp, .float .f32 npi, .float .f32 nen, .slice Xh ndX.length chx, .slice Yh ndY.length chy, .float .f32 1065353216, .float .f32 1048576000, .float .f32 1040187392] : Array Value).toList := ⟨_, rfl⟩
  have KKo : BlkL wkh BKh [.slice Rh1 ndA.length ch1, .slice Rh2 ndB.length ch2, .slice Rh3 ndE.length ch3, .slice Rh4 ndN ch4, .int .i64 ndC, .float .f32 ndH, .float .f32 ndT, .float .f32 1065353216, .float .f32 1092616192, .float .f32 1090519040, .float .f32 1048576000, .float .f32 nq0, .float .f32 nq1, .float .f32 nq2, .float .f32 nq3, .float .f32 nq4, .float .f32 nq5, .float .f32 nq6, .float .f32 nq7, .int .i64 nst, .float .f32 nsp, .float .f32 npi, .float .f32 nen, .slice Xh ndX.length chx, .slice Yh ndY.length chy, .float .f32 1065353216, .float .f32 1048576000, .float .f32 1040187392] := by rw [hwk, ← hBK]; exact blkL_setCellsN HKZ.out rfl
  have b : Below wch.heap.size wch wkh := by rw [hwk]; exact setCells_keep (Q := fun W => Below wch.heap.size wch W) (fun W j v h => h.setCell (by show wch.heap.size ≤ wch.heap.size; omega) v) _ _ _ ((Below.refl _ _).alloc (Nat.le_refl _) _)
  have HKh : Hid (BKh = wch.heap.size ∧ BKh < wkh.heap.size) := Lib.hid ⟨hBK, KKo.1⟩
  have B9 : Hid (Below w.heap.size w wkh) := Lib.hid (below_of B8.out B8.out.size b)
  have Z9 : Hid (wch.heap.size ≤ wkh.heap.size) := Lib.hid b.size
  have Ts_8 : Hid (OwnT wkh w.heap.size Rs1 Rs2 Rs3 Rs4 gs1 gs2 gs3 gs4 ndA ndB ndE ndS) := Lib.hid (Ts_7.out.below b)
  have Fs_8 : Hid (OwnR2 wkh BBs Xs Ys gsx gsy ndX ndY) := Lib.hid (Fs_7.out.below b)
  have Ks_7 : Hid (BlkL wkh BKs [.slice Rs1 ndA.length cs1, .slice Rs2 ndB.length cs2, .slice Rs3 ndE.length cs3, .slice Rs4 ndN cs4, .int .i64 ndC, .float .f32 ndH, .float .f32 ndT, .float .f32 1065353216, .float .f32 1092616192, .float .f32 1090519040, .float .f32 1048576000, .float .f32 nq0, .float .f32 nq1, .float .f32 nq2, .float .f32 nq3, .float .f32 nq4, .float .f32 nq5, .float .f32 nq6, .float .f32 nq7, .int .i64 nst, .float .f32 nsp, .float .f32 npi, .float .f32 nen, .slice Xs ndX.length csx, .slice Ys ndY.length csy, .float .f32 1065353216, .float .f32 1048576000, .float .f32 1040187392]) := Lib.hid (Ks_6.out.below b)
  have Kg_5 : Hid (BlkL wkh BKg [.slice Rg1 ndA.length cg1, .slice Rg2 ndB.length cg2, .slice Rg3 ndE.length cg3, .slice Rg4 ndN cg4, .int .i64 ndC, .float .f32 ndH, .float .f32 ndT, .float .f32 1065353216, .float .f32 1092616192, .float .f32 1090519040, .float .f32 1048576000, .float .f32 nq0, .float .f32 nq1, .float .f32 nq2, .float .f32 nq3, .float .f32 nq4, .float .f32 nq5, .float .f32 nq6, .float .f32 nq7, .int .i64 nst, .float .f32 nsp, .float .f32 npi, .float .f32 nen, .slice Xg ndX.length cgx, .slice Yg ndY.length cgy, .float .f32 1065353216, .float .f32 1048576000, .float .f32 1040187392]) := Lib.hid (Kg_4.out.below b)
  have TM_3 : Hid (OwnT wkh wks.heap.size Rg1 Rg2 Rg3 Rg4 gg1 gg2 gg3 gg4 (marks 1 ndA.length) (marks (1 + ndA.length) ndB.length) (marks (1 + ndA.length + ndB.length) ndE.length) (marks (1 + ndA.length + ndB.length + ndE.length) (ndN * 3))) := Lib.hid (TM_2.out.below b)
  have FM_3 : Hid (OwnR2 wkh BBg Xg Yg ggx ggy (marks (1 + ndA.length + ndB.length + ndE.length + 3 * ndN) ndX.length) (marks ((1 + ndA.length + ndB.length + ndE.length + 3 * ndN) + ndX.length) ndY.length)) := Lib.hid (FM_2.out.below b)
  have Th_1 : Hid (OwnT wkh wd7.heap.size Rh1 Rh2 Rh3 Rh4 gh1 gh2 gh3 gh4 ndA ndB ndE ndS) := Lib.hid (Th.out.below b)
  have Fh_1 : Hid (OwnR2 wkh BBh Xh Yh ghx ghy ndX ndY) := Lib.hid (Fh.out.below b)
  clear Ts_7 Fs_7 Ks_6 Kg_4 TM_2 FM_2 Th Fh
  have Kh : Hid (BlkL wkh BKh [.slice Rh1 ndA.length ch1, .slice Rh2 ndB.length ch2, .slice Rh3 ndE.length ch3, .slice Rh4 ndN ch4, .int .i64 ndC, .float .f32 ndH, .float .f32 ndT, .float .f32 1065353216, .float .f32 1092616192, .float .f32 1090519040, .float .f32 1048576000, .float .f32 nq0, .float .f32 nq1, .float .f32 nq2, .float .f32 nq3, .float .f32 nq4, .float .f32 nq5, .float .f32 nq6, .float .f32 nq7, .int .i64 nst, .float .f32 nsp, .float .f32 npi, .float .f32 nen, .slice Xh ndX.length chx, .slice Yh ndY.length chy, .float .f32 1065353216, .float .f32 1048576000, .float .f32 1040187392]) := Lib.hid (KKo)
  clear KKo b HKZ
  go_upto_region 14 with (refine wpList_store_mid rfl 102 _ _ rfl wch.heap.size 0 _ rfl rfl HT (by kernel_rfl) (all_oneCell_toArray (by simp [Value.oneCell'])) ?_)
  rw [← hwk, ← hBK]
  clear hwk hBK HT
  go_wp2_with (first | (refine wpList_load_mid rfl 102 _ rfl BKh 0 rfl [.slice Rh1 ndA.length ch1, .slice Rh2 ndB.length ch2, .slice Rh3 ndE.length ch3, .slice Rh4 ndN ch4, .int .i64 ndC, .float .f32 ndH, .float .f32 ndT, .float .f32 1065353216, .float .f32 1092616192, .float .f32 1090519040, .float .f32 1048576000, .float .f32 nq0, .float .f32 nq1, .float .f32 nq2, .float .f32 nq3, .float .f32 nq4, .float .f32 nq5, .float .f32 nq6, .float .f32 nq7, .int .i64 nst, .float .f32 nsp, .float .f32 npi, .float .f32 nen, .slice Xh ndX.length chx, .slice Yh ndY.length chy, .float .f32 1065353216, .float .f32 1048576000, .float .f32 1040187392] _ (rngN Kh.out) Try.underlying102 rfl (by kernel_rfl) ?_) | (refine wpList_load_mid rfl 102 _ rfl BKs 0 rfl [.slice Rs1 ndA.length cs1, .slice Rs2 ndB.length cs2, .slice Rs3 ndE.length cs3, .slice Rs4 ndN cs4, .int .i64 ndC, .float .f32 ndH, .float .f32 ndT, .float .f32 1065353216, .float .f32 1092616192, .float .f32 1090519040, .float .f32 1048576000, .float .f32 nq0, .float .f32 nq1, .float .f32 nq2, .float .f32 nq3, .float .f32 nq4, .float .f32 nq5, .float .f32 nq6, .float .f32 nq7, .int .i64 nst, .float .f32 nsp, .float .f32 npi, .float .f32 nen, .slice Xs ndX.length csx, .slice Ys ndY.length csy, .float .f32 1065353216, .float .f32 1048576000, .float .f32 1040187392] _ (rngN Ks_7.out) Try.underlying102 rfl (by kernel_rfl) ?_) | fail)
  refine (l_eqDeskN _ _ _ _ _ _ _ _ _ _ _ _ _ _ _ _ _ _ _ _ ndN ndC ndH ndT ndA ndB ndE ndS _ _ _ _ _ _ _ _ _ _ _ _ _ _ _ _ _ _ _ _ ndX ndY _ _ _ _ Th_1.out.rt Ts_8.out.rt nd_few Fh_1.out.fl Fs_8.out.fl nd_fewS).mono ?_
  rintro e wd10 ⟨rfl, b⟩
  have B10 : Hid (Below w.heap.size w wd10) := Lib.hid (below_of B9.out B9.out.size b)
  have Z10 : Hid (wkh.heap.size ≤ wd10.heap.size) := Lib.hid b.size
  have Ts_9 : Hid (OwnT wd10 w.heap.size Rs1 Rs2 Rs3 Rs4 gs1 gs2 gs3 gs4 ndA ndB ndE ndS) := Lib.hid (Ts_8.out.below b)
  have Fs_9 : Hid (OwnR2 wd10 BBs Xs Ys gsx gsy ndX ndY) := Lib.hid (Fs_8.out.below b)
  have Ks_8 : Hid (BlkL wd10 BKs [.slice Rs1 ndA.length cs1, .slice Rs2 ndB.length cs2, .slice Rs3 ndE.length cs3, .slice Rs4 ndN cs4, .int .i64 ndC, .float .f32 ndH, .float .f32 ndT, .float .f32 1065353216, .float .f32 1092616192, .float .f32 1090519040, .float .f32 1048576000, .float .f32 nq0, .float .f32 nq1, .float .f32 nq2, .float .f32 nq3, .float .f32 nq4, .float .f32 nq5, .float .f32 nq6, .float .f32 nq7, .int .i64 nst, .float .f32 nsp, .float .f32 npi, .float .f32 nen, .slice Xs ndX.length csx, .slice Ys ndY.length csy, .float .f32 1065353216, .float .f32 1048576000, .float .f32 1040187392]) := Lib.hid (Ks_7.out.below b)
  have Kg_6 : Hid (BlkL wd10 BKg [.slice Rg1 ndA.length cg1, .slice Rg2 ndB.length cg2, .slice Rg3 ndE.length cg3, .slice Rg4 ndN cg4, .int .i64 ndC, .float .f32 ndH, .float .f32 ndT, .float .f32 1065353216, .float .f32 1092616192, .float .f32 1090519040, .float .f32 1048576000, .float .f32 nq0, .float .f32 nq1, .float .f32 nq2, .float .f32 nq3, .float .f32 nq4, .float .f32 nq5, .float .f32 nq6, .float .f32 nq7, .int .i64 nst, .float .f32 nsp, .float .f32 npi, .float .f32 nen, .slice Xg ndX.length cgx, .slice Yg ndY.length cgy, .float .f32 1065353216, .float .f32 1048576000, .float .f32 1040187392]) := Lib.hid (Kg_5.out.below b)
  have TM_4 : Hid (OwnT wd10 wks.heap.size Rg1 Rg2 Rg3 Rg4 gg1 gg2 gg3 gg4 (marks 1 ndA.length) (marks (1 + ndA.length) ndB.length) (marks (1 + ndA.length + ndB.length) ndE.length) (marks (1 + ndA.length + ndB.length + ndE.length) (ndN * 3))) := Lib.hid (TM_3.out.below b)
  have FM_4 : Hid (OwnR2 wd10 BBg Xg Yg ggx ggy (marks (1 + ndA.length + ndB.length + ndE.length + 3 * ndN) ndX.length) (marks ((1 + ndA.length + ndB.length + ndE.length + 3 * ndN) + ndX.length) ndY.length)) := Lib.hid (FM_3.out.below b)
  have Th_2 : Hid (OwnT wd10 wd7.heap.size Rh1 Rh2 Rh3 Rh4 gh1 gh2 gh3 gh4 ndA ndB ndE ndS) := Lib.hid (Th_1.out.below b)
  have Fh_2 : Hid (OwnR2 wd10 BBh Xh Yh ghx ghy ndX ndY) := Lib.hid (Fh_1.out.below b)
  have Kh_1 : Hid (BlkL wd10 BKh [.slice Rh1 ndA.length ch1, .slice Rh2 ndB.length ch2, .slice Rh3 ndE.length ch3, .slice Rh4 ndN ch4, .int .i64 ndC, .float .f32 ndH, .float .f32 ndT, .float .f32 1065353216, .float .f32 1092616192, .float .f32 1090519040, .float .f32 1048576000, .float .f32 nq0, .float .f32 nq1, .float .f32 nq2, .float .f32 nq3, .float .f32 nq4, .float .f32 nq5, .float .f32 nq6, .float .f32 nq7, .int .i64 nst, .float .f32 nsp, .float .f32 npi, .float .f32 nen, .slice Xh ndX.length chx, .slice Yh ndY.length chy, .float .f32 1065353216, .float .f32 1048576000, .float .f32 1040187392]) := Lib.hid (Kh.out.below b)
  clear Ts_8 Fs_8 Ks_7 Kg_5 TM_3 FM_3 Th_1 Fh_1 Kh
  clear b
  go_wp2_with (first | (refine wpList_load_mid rfl 102 _ rfl BKg 0 rfl [.slice Rg1 ndA.length cg1, .slice Rg2 ndB.length cg2, .slice Rg3 ndE.length cg3, .slice Rg4 ndN cg4, .int .i64 ndC, .float .f32 ndH, .float .f32 ndT, .float .f32 1065353216, .float .f32 1092616192, .float .f32 1090519040, .float .f32 1048576000, .float .f32 nq0, .float .f32 nq1, .float .f32 nq2, .float .f32 nq3, .float .f32 nq4, .float .f32 nq5, .float .f32 nq6, .float .f32 nq7, .int .i64 nst, .float .f32 nsp, .float .f32 npi, .float .f32 nen, .slice Xg ndX.length cgx, .slice Yg ndY.length cgy, .float .f32 1065353216, .float .f32 1048576000, .float .f32 1040187392] _ (rngN Kg_6.out) Try.underlying102 rfl (by kernel_rfl) ?_) | fail)
  refine (l_heldDesk _ _ _ _ _ _ _ _ _ _ _ _ ndN ndC ndH ndT _ _ _ _ _ _ _ _ _ _ _ _ _ _ _ _ _ _ _ ndA.length ndB.length ndE.length ndX.length ndY.length _ _ _ _ _ _ _ _ 1 _ TM_4.out (by have := nd_small; omega) FM_4.out (by have := nd_small; omega) (by omega) _ rfl).mono ?_
  rintro e wd11 ⟨rfl, b⟩
  have B11 : Hid (Below w.heap.size w wd11) := Lib.hid (below_of B10.out B10.out.size b)
  have Z11 : Hid (wd10.heap.size ≤ wd11.heap.size) := Lib.hid b.size
  have Ts_10 : Hid (OwnT wd11 w.heap.size Rs1 Rs2 Rs3 Rs4 gs1 gs2 gs3 gs4 ndA ndB ndE ndS) := Lib.hid (Ts_9.out.below b)
  have Fs_10 : Hid (OwnR2 wd11 BBs Xs Ys gsx gsy ndX ndY) := Lib.hid (Fs_9.out.below b)
  have Ks_9 : Hid (BlkL wd11 BKs [.slice Rs1 ndA.length cs1, .slice Rs2 ndB.length cs2, .slice Rs3 ndE.length cs3, .slice Rs4 ndN cs4, .int .i64 ndC, .float .f32 ndH, .float .f32 ndT, .float .f32 1065353216, .float .f32 1092616192, .float .f32 1090519040, .float .f32 1048576000, .float .f32 nq0, .float .f32 nq1, .float .f32 nq2, .float .f32 nq3, .float .f32 nq4, .float .f32 nq5, .float .f32 nq6, .float .f32 nq7, .int .i64 nst, .float .f32 nsp, .float .f32 npi, .float .f32 nen, .slice Xs ndX.length csx, .slice Ys ndY.length csy, .float .f32 1065353216, .float .f32 1048576000, .float .f32 1040187392]) := Lib.hid (Ks_8.out.below b)
  have Kg_7 : Hid (BlkL wd11 BKg [.slice Rg1 ndA.length cg1, .slice Rg2 ndB.length cg2, .slice Rg3 ndE.length cg3, .slice Rg4 ndN cg4, .int .i64 ndC, .float .f32 ndH, .float .f32 ndT, .float .f32 1065353216, .float .f32 1092616192, .float .f32 1090519040, .float .f32 1048576000, .float .f32 nq0, .float .f32 nq1, .float .f32 nq2, .float .f32 nq3, .float .f32 nq4, .float .f32 nq5, .float .f32 nq6, .float .f32 nq7, .int .i64 nst, .float .f32 nsp, .float .f32 npi, .float .f32 nen, .slice Xg ndX.length cgx, .slice Yg ndY.length cgy, .float .f32 1065353216, .float .f32 1048576000, .float .f32 1040187392]) := Lib.hid (Kg_6.out.below b)
  have TM_5 : Hid (OwnT wd11 wks.heap.size Rg1 Rg2 Rg3 Rg4 gg1 gg2 gg3 gg4 (marks 1 ndA.length) (marks (1 + ndA.length) ndB.length) (marks (1 + ndA.length + ndB.length) ndE.length) (marks (1 + ndA.length + ndB.length + ndE.length) (ndN * 3))) := Lib.hid (TM_4.out.below b)
  have FM_5 : Hid (OwnR2 wd11 BBg Xg Yg ggx ggy (marks (1 + ndA.length + ndB.length + ndE.length + 3 * ndN) ndX.length) (marks ((1 + ndA.length + ndB.length + ndE.length + 3 * ndN) + ndX.length) ndY.length)) := Lib.hid (FM_4.out.below b)
  have Th_3 : Hid (OwnT wd11 wd7.heap.size Rh1 Rh2 Rh3 Rh4 gh1 gh2 gh3 gh4 ndA ndB ndE ndS) := Lib.hid (Th_2.out.below b)
  have Fh_3 : Hid (OwnR2 wd11 BBh Xh Yh ghx ghy ndX ndY) := Lib.hid (Fh_2.out.below b)
  have Kh_2 : Hid (BlkL wd11 BKh [.slice Rh1 ndA.length ch1, .slice Rh2 ndB.length ch2, .slice Rh3 ndE.length ch3, .slice Rh4 ndN ch4, .int .i64 ndC, .float .f32 ndH, .float .f32 ndT, .float .f32 1065353216, .float .f32 1092616192, .float .f32 1090519040, .float .f32 1048576000, .float .f32 nq0, .float .f32 nq1, .float .f32 nq2, .float .f32 nq3, .float .f32 nq4, .float .f32 nq5, .float .f32 nq6, .float .f32 nq7, .int .i64 nst, .float .f32 nsp, .float .f32 npi, .float .f32 nen, .slice Xh ndX.length chx, .slice Yh ndY.length chy, .float .f32 1065353216, .float .f32 1048576000, .float .f32 1040187392]) := Lib.hid (Kh_1.out.below b)
  clear Ts_9 Fs_9 Ks_8 Kg_6 TM_4 FM_4 Th_2 Fh_2 Kh_1
  clear b
  go_wp2
  go_ret
  exact ⟨rfl, B11.out⟩
end Go.Proofs.Ytiiiigldpbomkaa
