/- The law FnExactSameDesk. No statement is proved here. -/
import Derived.Test.YtiiiigldpbomkaaDssI
import Derived.Test.YtiiiigldpbomkaaDskT
import Derived.Test.YtiiiigldpbomkaaDskE
import Derived.Test.YtiiiigldpbomkaaInv4
import Derived.Deep.MidRow
import Derived.Deep.Cut
namespace Go.Proofs.Ytiiiigldpbomkaa
open Go Go.RowKit
theorem rng {w : World} {B : Nat} {vs : List Value} (h : BlkL w B vs) : w.rangeAt B 0 vs := fun j v hj => by rw [Nat.zero_add]; exact (h.2 j v hj).1
theorem blkL_setCells {w : World} {B : Nat} {us vs : List Value} (h : BlkL w B us) (hl : us.length = vs.length) : BlkL (w.setCells B 0 vs) B vs := by
  have at_ : ∀ j, j < vs.length → ∃ v, us[j]? = some v := fun j hj => ⟨_, List.getElem?_eq_getElem (by omega)⟩
  have ht : w.there B 0 vs.length := fun j hj => by
    obtain ⟨v, hv⟩ := at_ j hj
    rw [Nat.zero_add]
    exact ⟨by rw [(h.2 j v hv).1]; rfl, (h.2 j v hv).2⟩
  refine ⟨setCells_keep (Q := fun W => B < W.heap.size) (fun W j v h => by simpa [World.setCell] using h) _ _ _ h.1, fun j v hj => ⟨?_, ?_⟩⟩
  · have := World.rangeAt_setCells_same w B 0 vs ht j v hj
    rwa [Nat.zero_add] at this
  · obtain ⟨u, hu⟩ := at_ j (List.getElem?_eq_some_iff.1 hj).1
    exact setCells_keep (Q := fun W => W.frozen? ⟨B, j, none⟩ = false) (fun W i u h => by rw [World.frozen?_setCell]; exact h) _ _ _ (h.2 j u hu).2
set_option maxHeartbeats 16000000 in
set_option maxRecDepth 100000 in
theorem law_FnExactSameDesk (A L D S : Option Addr) (ca cl cd n cs : Nat) (c : Int) (hub tip : Nat) (a l d s : List Nat) (e0 e1 e2 e3 : Nat) (p0 p1 p2 p3 p4 p5 p6 p7 : Nat) (st : Int) (sp pi en : Nat) (X Y : Option Addr) (cx cy : Nat) (fx fy : List Nat) (fr fd fs : Nat) (A' L' D' S' : Option Addr) (ca' cl' cd' n' cs' : Nat) (c' : Int) (hub' tip' : Nat) (a' l' d' s' : List Nat) (e0' e1' e2' e3' : Nat) (q0 q1 q2 q3 q4 q5 q6 q7 : Nat) (st' : Int) (sp' pi' en' : Nat) (X' Y' : Option Addr) (cx' cy' : Nat) (fx' fy' : List Nat) (fr' fd' fs' : Nat) (w : World) (hr : Rt w A L D S a l d s) (hs : s.length = n * 3) (ha : a.length ≤ 9223372036854775807) (hl : l.length ≤ 9223372036854775807) (hd : d.length ≤ 9223372036854775807) (hnn : n ≤ 9223372036854775807) (hf : Rs w X Y fx fy) (hx : fx.length ≤ 9223372036854775807) (hy : fy.length ≤ 9223372036854775807) (hw : WDsk hub tip a l d s e0 e1 e2 e3 p0 p1 p2 p3 p4 p5 p6 p7 st sp pi en fx fy fr fd fs) (hr' : Rt w A' L' D' S' a' l' d' s') (hs' : s'.length = n' * 3) (ha' : a'.length ≤ 9223372036854775807) (hl' : l'.length ≤ 9223372036854775807) (hd' : d'.length ≤ 9223372036854775807) (hnn' : n' ≤ 9223372036854775807) (hf' : Rs w X' Y' fx' fy') (hx' : fx'.length ≤ 9223372036854775807) (hy' : fy'.length ≤ 9223372036854775807) (hw' : WDsk hub' tip' a' l' d' s' e0' e1' e2' e3' q0 q1 q2 q3 q4 q5 q6 q7 st' sp' pi' en' fx' fy' fr' fd' fs') :
    Calls Try.prog 13 #[.agg #[.slice A a.length ca, .slice L l.length cl, .slice D d.length cd, .slice S n cs, .int .i64 c, .float .f32 hub, .float .f32 tip, .float .f32 e0, .float .f32 e1, .float .f32 e2, .float .f32 e3, .float .f32 p0, .float .f32 p1, .float .f32 p2, .float .f32 p3, .float .f32 p4, .float .f32 p5, .float .f32 p6, .float .f32 p7, .int .i64 st, .float .f32 sp, .float .f32 pi, .float .f32 en, .slice X fx.length cx, .slice Y fy.length cy, .float .f32 fr, .float .f32 fd, .float .f32 fs], .agg #[.slice A' a'.length ca', .slice L' l'.length cl', .slice D' d'.length cd', .slice S' n' cs', .int .i64 c', .float .f32 hub', .float .f32 tip', .float .f32 e0', .float .f32 e1', .float .f32 e2', .float .f32 e3', .float .f32 q0, .float .f32 q1, .float .f32 q2, .float .f32 q3, .float .f32 q4, .float .f32 q5, .float .f32 q6, .float .f32 q7, .int .i64 st', .float .f32 sp', .float .f32 pi', .float .f32 en', .slice X' fx'.length cx', .slice Y' fy'.length cy', .float .f32 fr', .float .f32 fd', .float .f32 fs']] w fun e w' => e = .returned (.bool true) ∧ Below w.heap.size w w' := by
  have HR := Lib.hid hr; clear hr
  have HF := Lib.hid hf; clear hf
  have HW := Lib.hid hw; clear hw
  have HR' := Lib.hid hr'; clear hr'
  have HF' := Lib.hid hf'; clear hf'
  have HW' := Lib.hid hw'; clear hw'
  obtain ⟨w0, hw0⟩ : ∃ x, x = (w.alloc (.cells #[.slice A a.length ca, .slice L l.length cl, .slice D d.length cd, .slice S n cs, .int .i64 c, .float .f32 hub, .float .f32 tip, .float .f32 e0, .float .f32 e1, .float .f32 e2, .float .f32 e3, .float .f32 p0, .float .f32 p1, .float .f32 p2, .float .f32 p3, .float .f32 p4, .float .f32 p5, .float .f32 p6, .float .f32 p7, .int .i64 st, .float .f32 sp, .float .f32 pi, .float .f32 en, .slice X fx.length cx, .slice Y fy.length cy, .float .f32 fr, .float .f32 fd, .float .f32 fs] 95)).alloc (.cells #[.slice A' a'.length ca', .slice L' l'.length cl', .slice D' d'.length cd', .slice S' n' cs', .int .i64 c', .float .f32 hub', .float .f32 tip', .float .f32 e0', .float .f32 e1', .float .f32 e2', .float .f32 e3', .float .f32 q0, .float .f32 q1, .float .f32 q2, .float .f32 q3, .float .f32 q4, .float .f32 q5, .float .f32 q6, .float .f32 q7, .int .i64 st', .float .f32 sp', .float .f32 pi', .float .f32 en', .slice X' fx'.length cx', .slice Y' fy'.length cy', .float .f32 fr', .float .f32 fd', .float .f32 fs'] 95) := ⟨_, rfl⟩
  have B0 : Hid (Below w.heap.size w w0) := Lib.hid (by rw [hw0]; exact ((Below.refl _ _).alloc (Nat.le_refl _) _).alloc (by simp) _)
  have Z0 : Hid (w0.heap.size = w.heap.size + 2) := Lib.hid (by rw [hw0]; simp)
  have K : Hid (BlkL w0 w.heap.size [.slice A a.length ca, .slice L l.length cl, .slice D d.length cd, .slice S n cs, .int .i64 c, .float .f32 hub, .float .f32 tip, .float .f32 e0, .float .f32 e1, .float .f32 e2, .float .f32 e3, .float .f32 p0, .float .f32 p1, .float .f32 p2, .float .f32 p3, .float .f32 p4, .float .f32 p5, .float .f32 p6, .float .f32 p7, .int .i64 st, .float .f32 sp, .float .f32 pi, .float .f32 en, .slice X fx.length cx, .slice Y fy.length cy, .float .f32 fr, .float .f32 fd, .float .f32 fs]) := Lib.hid (by rw [hw0]; exact (blkL_at w #[.slice A a.length ca, .slice L l.length cl, .slice D d.length cd, .slice S n cs, .int .i64 c, .float .f32 hub, .float .f32 tip, .float .f32 e0, .float .f32 e1, .float .f32 e2, .float .f32 e3, .float .f32 p0, .float .f32 p1, .float .f32 p2, .float .f32 p3, .float .f32 p4, .float .f32 p5, .float .f32 p6, .float .f32 p7, .int .i64 st, .float .f32 sp, .float .f32 pi, .float .f32 en, .slice X fx.length cx, .slice Y fy.length cy, .float .f32 fr, .float .f32 fd, .float .f32 fs] _ rfl).alloc _)
  have K' : Hid (BlkL w0 (w.heap.size + 1) [.slice A' a'.length ca', .slice L' l'.length cl', .slice D' d'.length cd', .slice S' n' cs', .int .i64 c', .float .f32 hub', .float .f32 tip', .float .f32 e0', .float .f32 e1', .float .f32 e2', .float .f32 e3', .float .f32 q0, .float .f32 q1, .float .f32 q2, .float .f32 q3, .float .f32 q4, .float .f32 q5, .float .f32 q6, .float .f32 q7, .int .i64 st', .float .f32 sp', .float .f32 pi', .float .f32 en', .slice X' fx'.length cx', .slice Y' fy'.length cy', .float .f32 fr', .float .f32 fd', .float .f32 fs']) := Lib.hid (by rw [hw0]; exact blkL_at (w.alloc _) #[.slice A' a'.length ca', .slice L' l'.length cl', .slice D' d'.length cd', .slice S' n' cs', .int .i64 c', .float .f32 hub', .float .f32 tip', .float .f32 e0', .float .f32 e1', .float .f32 e2', .float .f32 e3', .float .f32 q0, .float .f32 q1, .float .f32 q2, .float .f32 q3, .float .f32 q4, .float .f32 q5, .float .f32 q6, .float .f32 q7, .int .i64 st', .float .f32 sp', .float .f32 pi', .float .f32 en', .slice X' fx'.length cx', .slice Y' fy'.length cy', .float .f32 fr', .float .f32 fd', .float .f32 fs'] _ (by simp))
  by_cases hq : (a.length : Int) + l.length + d.length + n + (fx.length + fy.length) ≤ 1048576
  · skip
    have HNR : Hid (FewR a l d s n) := Lib.hid ⟨hs, by omega⟩
    have HNF : Hid (FewS fx fy) := Lib.hid (by unfold FewS; omega)
    have hq0 : (0 : Int) ≤ 1048576 - a.length - l.length - d.length - n - fx.length - fy.length := by omega
    by_cases hq' : (a'.length : Int) + l'.length + d'.length + n' + (fx'.length + fy'.length) ≤ 1048576 - a.length - l.length - d.length - n - fx.length - fy.length
    · skip
      have HNR' : Hid (FewR a' l' d' s' n') := Lib.hid ⟨hs', by omega⟩
      have HNF' : Hid (FewS fx' fy') := Lib.hid (by unfold FewS; omega)
      have hq1 : (0 : Int) ≤ 1048576 - a.length - l.length - d.length - n - fx.length - fy.length - a'.length - l'.length - d'.length - n' - fx'.length - fy'.length := by omega
      go_enter Try.func13, Try.ntmps13
      go_upto_region 2 with fail
      rw [← hw0]
      clear hw0
      go_wp2_with (refine wpList_load_mid rfl 95 _ rfl w.heap.size 0 rfl [.slice A a.length ca, .slice L l.length cl, .slice D d.length cd, .slice S n cs, .int .i64 c, .float .f32 hub, .float .f32 tip, .float .f32 e0, .float .f32 e1, .float .f32 e2, .float .f32 e3, .float .f32 p0, .float .f32 p1, .float .f32 p2, .float .f32 p3, .float .f32 p4, .float .f32 p5, .float .f32 p6, .float .f32 p7, .int .i64 st, .float .f32 sp, .float .f32 pi, .float .f32 en, .slice X fx.length cx, .slice Y fy.length cy, .float .f32 fr, .float .f32 fd, .float .f32 fs] _ (rng K.out) Try.underlying95 rfl (by kernel_rfl) ?_)
      refine (l_szDesk_yes A L D S ca cl cd n cs c hub tip a l d s e0 e1 e2 e3 p0 p1 p2 p3 p4 p5 p6 p7 st sp pi en X Y cx cy fx fy fr fd fs _ _ (by omega) (by omega)).mono ?_
      rintro e w1 ⟨rfl, b⟩
      have B1 : Hid (Below w.heap.size w w1) := Lib.hid (below_of B0.out B0.out.size b)
      have Z1 : Hid (w0.heap.size ≤ w1.heap.size) := Lib.hid b.size
      have K_1 : Hid (BlkL w1 w.heap.size [.slice A a.length ca, .slice L l.length cl, .slice D d.length cd, .slice S n cs, .int .i64 c, .float .f32 hub, .float .f32 tip, .float .f32 e0, .float .f32 e1, .float .f32 e2, .float .f32 e3, .float .f32 p0, .float .f32 p1, .float .f32 p2, .float .f32 p3, .float .f32 p4, .float .f32 p5, .float .f32 p6, .float .f32 p7, .int .i64 st, .float .f32 sp, .float .f32 pi, .float .f32 en, .slice X fx.length cx, .slice Y fy.length cy, .float .f32 fr, .float .f32 fd, .float .f32 fs]) := Lib.hid (K.out.below b)
      have K'_1 : Hid (BlkL w1 (w.heap.size + 1) [.slice A' a'.length ca', .slice L' l'.length cl', .slice D' d'.length cd', .slice S' n' cs', .int .i64 c', .float .f32 hub', .float .f32 tip', .float .f32 e0', .float .f32 e1', .float .f32 e2', .float .f32 e3', .float .f32 q0, .float .f32 q1, .float .f32 q2, .float .f32 q3, .float .f32 q4, .float .f32 q5, .float .f32 q6, .float .f32 q7, .int .i64 st', .float .f32 sp', .float .f32 pi', .float .f32 en', .slice X' fx'.length cx', .slice Y' fy'.length cy', .float .f32 fr', .float .f32 fd', .float .f32 fs']) := Lib.hid (K'.out.below b)
      clear K K'
      clear b
      go_wp2_with (refine wpList_load_mid rfl 95 _ rfl (w.heap.size + 1) 0 rfl [.slice A' a'.length ca', .slice L' l'.length cl', .slice D' d'.length cd', .slice S' n' cs', .int .i64 c', .float .f32 hub', .float .f32 tip', .float .f32 e0', .float .f32 e1', .float .f32 e2', .float .f32 e3', .float .f32 q0, .float .f32 q1, .float .f32 q2, .float .f32 q3, .float .f32 q4, .float .f32 q5, .float .f32 q6, .float .f32 q7, .int .i64 st', .float .f32 sp', .float .f32 pi', .float .f32 en', .slice X' fx'.length cx', .slice Y' fy'.length cy', .float .f32 fr', .float .f32 fd', .float .f32 fs'] _ (rng K'_1.out) Try.underlying95 rfl (by kernel_rfl) ?_)
      refine (l_szDesk_yes A' L' D' S' ca' cl' cd' n' cs' c' hub' tip' a' l' d' s' e0' e1' e2' e3' q0 q1 q2 q3 q4 q5 q6 q7 st' sp' pi' en' X' Y' cx' cy' fx' fy' fr' fd' fs' _ _ (by omega) (by omega)).mono ?_
      rintro e w2 ⟨rfl, b⟩
      have B2 : Hid (Below w.heap.size w w2) := Lib.hid (below_of B1.out B1.out.size b)
      have Z2 : Hid (w1.heap.size ≤ w2.heap.size) := Lib.hid b.size
      have K_2 : Hid (BlkL w2 w.heap.size [.slice A a.length ca, .slice L l.length cl, .slice D d.length cd, .slice S n cs, .int .i64 c, .float .f32 hub, .float .f32 tip, .float .f32 e0, .float .f32 e1, .float .f32 e2, .float .f32 e3, .float .f32 p0, .float .f32 p1, .float .f32 p2, .float .f32 p3, .float .f32 p4, .float .f32 p5, .float .f32 p6, .float .f32 p7, .int .i64 st, .float .f32 sp, .float .f32 pi, .float .f32 en, .slice X fx.length cx, .slice Y fy.length cy, .float .f32 fr, .float .f32 fd, .float .f32 fs]) := Lib.hid (K_1.out.below b)
      have K'_2 : Hid (BlkL w2 (w.heap.size + 1) [.slice A' a'.length ca', .slice L' l'.length cl', .slice D' d'.length cd', .slice S' n' cs', .int .i64 c', .float .f32 hub', .float .f32 tip', .float .f32 e0', .float .f32 e1', .float .f32 e2', .float .f32 e3', .float .f32 q0, .float .f32 q1, .float .f32 q2, .float .f32 q3, .float .f32 q4, .float .f32 q5, .float .f32 q6, .float .f32 q7, .int .i64 st', .float .f32 sp', .float .f32 pi', .float .f32 en', .slice X' fx'.length cx', .slice Y' fy'.length cy', .float .f32 fr', .float .f32 fd', .float .f32 fs']) := Lib.hid (K'_1.out.below b)
      clear K_1 K'_1
      clear b
      go_wp2_with fail
      refine wp_region_inv4 (fun iq wv v => match iq with
        | 0 => v = .agg #[.slice A a.length ca, .slice L l.length cl, .slice D d.length cd, .slice S n cs, .int .i64 c, .float .f32 hub, .float .f32 tip, .float .f32 e0, .float .f32 e1, .float .f32 e2, .float .f32 e3, .float .f32 p0, .float .f32 p1, .float .f32 p2, .float .f32 p3, .float .f32 p4, .float .f32 p5, .float .f32 p6, .float .f32 p7, .int .i64 st, .float .f32 sp, .float .f32 pi, .float .f32 en, .slice X fx.length cx, .slice Y fy.length cy, .float .f32 fr, .float .f32 fd, .float .f32 fs]
        | 1 => ∃ z1 z2 z3 z4 z5 z6, v = .agg #[.slice (some ⟨z1, 0, none⟩) a.length a.length, .slice (some ⟨z2, 0, none⟩) l.length l.length, .slice (some ⟨z3, 0, none⟩) d.length d.length, .slice (some ⟨z4, 0, none⟩) n n, .int .i64 c, .float .f32 hub, .float .f32 tip, .float .f32 e0, .float .f32 e1, .float .f32 e2, .float .f32 e3, .float .f32 p0, .float .f32 p1, .float .f32 p2, .float .f32 p3, .float .f32 p4, .float .f32 p5, .float .f32 p6, .float .f32 p7, .int .i64 st, .float .f32 sp, .float .f32 pi, .float .f32 en, .slice (some ⟨z5, 0, none⟩) fx.length fx.length, .slice (some ⟨z6, 0, none⟩) fy.length fy.length, .float .f32 fr, .float .f32 fd, .float .f32 fs] ∧ Rt wv (some ⟨z1, 0, none⟩) (some ⟨z2, 0, none⟩) (some ⟨z3, 0, none⟩) (some ⟨z4, 0, none⟩) a l d s ∧ Rs wv (some ⟨z5, 0, none⟩) (some ⟨z6, 0, none⟩) fx fy
        | 2 => v = .agg #[.slice A' a'.length ca', .slice L' l'.length cl', .slice D' d'.length cd', .slice S' n' cs', .int .i64 c', .float .f32 hub', .float .f32 tip', .float .f32 e0', .float .f32 e1', .float .f32 e2', .float .f32 e3', .float .f32 q0, .float .f32 q1, .float .f32 q2, .float .f32 q3, .float .f32 q4, .float .f32 q5, .float .f32 q6, .float .f32 q7, .int .i64 st', .float .f32 sp', .float .f32 pi', .float .f32 en', .slice X' fx'.length cx', .slice Y' fy'.length cy', .float .f32 fr', .float .f32 fd', .float .f32 fs']
        | 3 => ∃ u1 u2 u3 u4 u5 u6, v = .agg #[.slice (some ⟨u1, 0, none⟩) a'.length a'.length, .slice (some ⟨u2, 0, none⟩) l'.length l'.length, .slice (some ⟨u3, 0, none⟩) d'.length d'.length, .slice (some ⟨u4, 0, none⟩) n' n', .int .i64 c', .float .f32 hub', .float .f32 tip', .float .f32 e0', .float .f32 e1', .float .f32 e2', .float .f32 e3', .float .f32 q0, .float .f32 q1, .float .f32 q2, .float .f32 q3, .float .f32 q4, .float .f32 q5, .float .f32 q6, .float .f32 q7, .int .i64 st', .float .f32 sp', .float .f32 pi', .float .f32 en', .slice (some ⟨u5, 0, none⟩) fx'.length fx'.length, .slice (some ⟨u6, 0, none⟩) fy'.length fy'.length, .float .f32 fr', .float .f32 fd', .float .f32 fs'] ∧ Rt wv (some ⟨u1, 0, none⟩) (some ⟨u2, 0, none⟩) (some ⟨u3, 0, none⟩) (some ⟨u4, 0, none⟩) a' l' d' s' ∧ Rs wv (some ⟨u5, 0, none⟩) (some ⟨u6, 0, none⟩) fx' fy'
        | 4 => v = .bool (deskE a l d s n c hub tip e0 e1 e2 e3 p0 p1 p2 p3 p4 p5 p6 p7 st sp pi en fx fy fr fd fs a' l' d' s' n' c' hub' tip' e0' e1' e2' e3' q0 q1 q2 q3 q4 q5 q6 q7 st' sp' pi' en' fx' fy' fr' fd' fs')
        | 5 => v = .bool (deskE a l d s n c hub tip e0 e1 e2 e3 p0 p1 p2 p3 p4 p5 p6 p7 st sp pi en fx fy fr fd fs a' l' d' s' n' c' hub' tip' e0' e1' e2' e3' q0 q1 q2 q3 q4 q5 q6 q7 st' sp' pi' en' fx' fy' fr' fd' fs')
        | _ => False) (fun _ ww => Below w2.heap.size w2 ww) (fun w w' => Below w.heap.size w w') ?hmono (by kernel_rfl) (by kernel_rfl) ((Below.refl _ _).drew) ?hop ?hend
      case hmono =>
        intro i wa wb v hR hV
        rcases i with _ | _ | _ | _ | _ | _ | i
        · exact hV
        · obtain ⟨z1, z2, z3, z4, z5, z6, rfl, h1, h2⟩ := hV; exact ⟨z1, z2, z3, z4, z5, z6, rfl, h1.below hR, h2.below hR⟩
        · exact hV
        · obtain ⟨u1, u2, u3, u4, u5, u6, rfl, h1, h2⟩ := hV; exact ⟨u1, u2, u3, u4, u5, u6, rfl, h1.below hR, h2.below hR⟩
        · exact hV
        · exact hV
        · exact hV
      case hop =>
        intro q o hq listed act wx hI hnot hcl hall
        have hB := hI.cls
        rcases q with _ | _ | _ | _ | _ | _ | q
        · simp at hq; subst hq
          have g2 : act.tmps[2]?.getD undef = .pointer (some ⟨w.heap.size, 0, none⟩) := hI.kept 2 (by kernel_rfl)
          clear hI hall hnot hcl
          refine .inl ⟨wanted_none rfl, ?_⟩
          refine wp_load_mid 95 _ rfl w.heap.size 0 (by simpa [go_sem] using g2) [.slice A a.length ca, .slice L l.length cl, .slice D d.length cd, .slice S n cs, .int .i64 c, .float .f32 hub, .float .f32 tip, .float .f32 e0, .float .f32 e1, .float .f32 e2, .float .f32 e3, .float .f32 p0, .float .f32 p1, .float .f32 p2, .float .f32 p3, .float .f32 p4, .float .f32 p5, .float .f32 p6, .float .f32 p7, .int .i64 st, .float .f32 sp, .float .f32 pi, .float .f32 en, .slice X fx.length cx, .slice Y fy.length cy, .float .f32 fr, .float .f32 fd, .float .f32 fs] _ (rng (K_2.out.below hB)) Try.underlying95 rfl (by kernel_rfl) ?_
          exact ⟨_, rfl, Below.refl _ _, rfl, hB⟩
        · simp at hq; subst hq
          have g20 : act.tmps[20]?.getD undef = .agg #[.slice A a.length ca, .slice L l.length cl, .slice D d.length cd, .slice S n cs, .int .i64 c, .float .f32 hub, .float .f32 tip, .float .f32 e0, .float .f32 e1, .float .f32 e2, .float .f32 e3, .float .f32 p0, .float .f32 p1, .float .f32 p2, .float .f32 p3, .float .f32 p4, .float .f32 p5, .float .f32 p6, .float .f32 p7, .int .i64 st, .float .f32 sp, .float .f32 pi, .float .f32 en, .slice X fx.length cx, .slice Y fy.length cy, .float .f32 fr, .float .f32 fd, .float .f32 fs] := hI.has 0 20 rfl (hall ⟨0, .data⟩ (by simp) rfl)
          clear hI hall hnot hcl
          refine .inl ⟨wanted_none rfl, ?_⟩
          unfold Oper.wp
          go_simp
          refine (l_toDesk A L D S ca cl cd n cs c hub tip a l d s e0 e1 e2 e3 p0 p1 p2 p3 p4 p5 p6 p7 st sp pi en X Y cx cy fx fy fr fd fs _ (HR.out.below (below_of B2.out B2.out.size hB)) HNR.out (HF.out.below (below_of B2.out B2.out.size hB)) HNF.out).mono ?_
          rintro e wy ⟨z1, z2, z3, z4, z5, z6, rfl, h1, h2, b8⟩
          exact ⟨_, rfl, b8, ⟨z1, z2, z3, z4, z5, z6, rfl, h1, h2⟩, below_of hB hB.size b8⟩
        · simp at hq; subst hq
          have g3 : act.tmps[3]?.getD undef = .pointer (some ⟨(w.heap.size + 1), 0, none⟩) := hI.kept 3 (by kernel_rfl)
          clear hI hall hnot hcl
          refine .inl ⟨wanted_none rfl, ?_⟩
          refine wp_load_mid 95 _ rfl (w.heap.size + 1) 0 (by simpa [go_sem] using g3) [.slice A' a'.length ca', .slice L' l'.length cl', .slice D' d'.length cd', .slice S' n' cs', .int .i64 c', .float .f32 hub', .float .f32 tip', .float .f32 e0', .float .f32 e1', .float .f32 e2', .float .f32 e3', .float .f32 q0, .float .f32 q1, .float .f32 q2, .float .f32 q3, .float .f32 q4, .float .f32 q5, .float .f32 q6, .float .f32 q7, .int .i64 st', .float .f32 sp', .float .f32 pi', .float .f32 en', .slice X' fx'.length cx', .slice Y' fy'.length cy', .float .f32 fr', .float .f32 fd', .float .f32 fs'] _ (rng (K'_2.out.below hB)) Try.underlying95 rfl (by kernel_rfl) ?_
          exact ⟨_, rfl, Below.refl _ _, rfl, hB⟩
        · simp at hq; subst hq
          have g22 : act.tmps[22]?.getD undef = .agg #[.slice A' a'.length ca', .slice L' l'.length cl', .slice D' d'.length cd', .slice S' n' cs', .int .i64 c', .float .f32 hub', .float .f32 tip', .float .f32 e0', .float .f32 e1', .float .f32 e2', .float .f32 e3', .float .f32 q0, .float .f32 q1, .float .f32 q2, .float .f32 q3, .float .f32 q4, .float .f32 q5, .float .f32 q6, .float .f32 q7, .int .i64 st', .float .f32 sp', .float .f32 pi', .float .f32 en', .slice X' fx'.length cx', .slice Y' fy'.length cy', .float .f32 fr', .float .f32 fd', .float .f32 fs'] := hI.has 2 22 rfl (hall ⟨2, .data⟩ (by simp) rfl)
          clear hI hall hnot hcl
          refine .inl ⟨wanted_none rfl, ?_⟩
          unfold Oper.wp
          go_simp
          refine (l_toDesk A' L' D' S' ca' cl' cd' n' cs' c' hub' tip' a' l' d' s' e0' e1' e2' e3' q0 q1 q2 q3 q4 q5 q6 q7 st' sp' pi' en' X' Y' cx' cy' fx' fy' fr' fd' fs' _ (HR'.out.below (below_of B2.out B2.out.size hB)) HNR'.out (HF'.out.below (below_of B2.out B2.out.size hB)) HNF'.out).mono ?_
          rintro e wy ⟨u1, u2, u3, u4, u5, u6, rfl, h1, h2, b8⟩
          exact ⟨_, rfl, b8, ⟨u1, u2, u3, u4, u5, u6, rfl, h1, h2⟩, below_of hB hB.size b8⟩
        · simp at hq; subst hq
          obtain ⟨z1, z2, z3, z4, z5, z6, g21, zr, zf⟩ := hI.has 1 21 rfl (hall ⟨1, .data⟩ (by simp) rfl)
          obtain ⟨u1, u2, u3, u4, u5, u6, g23, ur, uf⟩ := hI.has 3 23 rfl (hall ⟨3, .data⟩ (by simp) rfl)
          clear hI hall hnot hcl
          refine .inl ⟨wanted_none rfl, ?_⟩
          unfold Oper.wp
          go_simp
          refine (s_SameDesk _ _ _ _ _ _ _ n _ c hub tip a l d s e0 e1 e2 e3 p0 p1 p2 p3 p4 p5 p6 p7 st sp pi en _ _ _ _ fx fy fr fd fs _ _ _ _ _ _ _ n' _ c' hub' tip' a' l' d' s' e0' e1' e2' e3' q0 q1 q2 q3 q4 q5 q6 q7 st' sp' pi' en' _ _ _ _ fx' fy' fr' fd' fs' _ zr HNR.out zf HNF.out HW.out ur HNR'.out uf HNF'.out HW'.out).mono ?_
          rintro e wy ⟨rfl, b8⟩
          exact ⟨_, rfl, b8, rfl, below_of hB hB.size b8⟩
        · simp at hq; subst hq
          have g24 : act.tmps[24]?.getD undef = .bool (deskE a l d s n c hub tip e0 e1 e2 e3 p0 p1 p2 p3 p4 p5 p6 p7 st sp pi en fx fy fr fd fs a' l' d' s' n' c' hub' tip' e0' e1' e2' e3' q0 q1 q2 q3 q4 q5 q6 q7 st' sp' pi' en' fx' fy' fr' fd' fs') := hI.has 4 24 rfl (hall ⟨4, .data⟩ (by simp) rfl)
          clear hI hall hnot hcl
          refine .inl ⟨wanted_none rfl, ?_⟩
          unfold Oper.wp
          go_simp
          all_goals first | exact ⟨_, rfl, Below.refl _ _, rfl, hB⟩ | exact ⟨Below.refl _ _, hB⟩ | exact Below.refl _ _
        · simp at hq
      case hend =>
        intro listed act wx hI hall
        have hB := hI.cls
        have g6 : act.tmps[6]?.getD undef = .bool (deskE a l d s n c hub tip e0 e1 e2 e3 p0 p1 p2 p3 p4 p5 p6 p7 st sp pi en fx fy fr fd fs a' l' d' s' n' c' hub' tip' e0' e1' e2' e3' q0 q1 q2 q3 q4 q5 q6 q7 st' sp' pi' en' fx' fy' fr' fd' fs') := hI.has 5 6 rfl (hall 5 (by decide))
        have g0 := hI.kept 0 (by kernel_rfl)
        conv at g0 => rhs; whnf
        have g1 := hI.kept 1 (by kernel_rfl)
        conv at g1 => rhs; whnf
        have g2 := hI.kept 2 (by kernel_rfl)
        conv at g2 => rhs; whnf
        have g3 := hI.kept 3 (by kernel_rfl)
        conv at g3 => rhs; whnf
        have g4 := hI.kept 4 (by kernel_rfl)
        conv at g4 => rhs; whnf
        have g5 := hI.kept 5 (by kernel_rfl)
        conv at g5 => rhs; whnf
        have g7 : act.tmps[7]?.getD undef = undef := hI.kept 7 (by kernel_rfl)
        have g8 : act.tmps[8]?.getD undef = undef := hI.kept 8 (by kernel_rfl)
        have g9 : act.tmps[9]?.getD undef = undef := hI.kept 9 (by kernel_rfl)
        have g10 := hI.kept 10 (by kernel_rfl)
        conv at g10 => rhs; whnf
        have g11 := hI.kept 11 (by kernel_rfl)
        conv at g11 => rhs; whnf
        have g12 := hI.kept 12 (by kernel_rfl)
        conv at g12 => rhs; whnf
        have g13 := hI.kept 13 (by kernel_rfl)
        conv at g13 => rhs; whnf
        have g14 := hI.kept 14 (by kernel_rfl)
        conv at g14 => rhs; whnf
        have g15 := hI.kept 15 (by kernel_rfl)
        conv at g15 => rhs; whnf
        have g16 := hI.kept 16 (by kernel_rfl)
        conv at g16 => rhs; whnf
        have g17 := hI.kept 17 (by kernel_rfl)
        conv at g17 => rhs; whnf
        have g18 := hI.kept 18 (by kernel_rfl)
        conv at g18 => rhs; whnf
        have g19 := hI.kept 19 (by kernel_rfl)
        conv at g19 => rhs; whnf
        have g25 : act.tmps[25]?.getD undef = undef := hI.kept 25 (by kernel_rfl)
        have g26 : act.tmps[26]?.getD undef = undef := hI.kept 26 (by kernel_rfl)
        have g27 : act.tmps[27]?.getD undef = undef := hI.kept 27 (by kernel_rfl)
        have g28 : act.tmps[28]?.getD undef = undef := hI.kept 28 (by kernel_rfl)
        have g29 : act.tmps[29]?.getD undef = undef := hI.kept 29 (by kernel_rfl)
        have g30 : act.tmps[30]?.getD undef = undef := hI.kept 30 (by kernel_rfl)
        have g31 : act.tmps[31]?.getD undef = undef := hI.kept 31 (by kernel_rfl)
        have g32 : act.tmps[32]?.getD undef = undef := hI.kept 32 (by kernel_rfl)
        have g33 : act.tmps[33]?.getD undef = undef := hI.kept 33 (by kernel_rfl)
        have g34 : act.tmps[34]?.getD undef = undef := hI.kept 34 (by kernel_rfl)
        have g35 : act.tmps[35]?.getD undef = undef := hI.kept 35 (by kernel_rfl)
        have g36 : act.tmps[36]?.getD undef = undef := hI.kept 36 (by kernel_rfl)
        have g37 : act.tmps[37]?.getD undef = undef := hI.kept 37 (by kernel_rfl)
        have g38 : act.tmps[38]?.getD undef = undef := hI.kept 38 (by kernel_rfl)
        have g39 : act.tmps[39]?.getD undef = undef := hI.kept 39 (by kernel_rfl)
        have g40 : act.tmps[40]?.getD undef = undef := hI.kept 40 (by kernel_rfl)
        have g41 : act.tmps[41]?.getD undef = undef := hI.kept 41 (by kernel_rfl)
        have g42 : act.tmps[42]?.getD undef = undef := hI.kept 42 (by kernel_rfl)
        have g43 : act.tmps[43]?.getD undef = undef := hI.kept 43 (by kernel_rfl)
        have g44 : act.tmps[44]?.getD undef = undef := hI.kept 44 (by kernel_rfl)
        have hsz : act.tmps.size = 45 := hI.size.trans (by kernel_rfl)
        have hd := hI.defers
        clear hI hall
        obtain ⟨tt, dd⟩ := act
        simp only at g0 g1 g2 g3 g4 g5 g6 g7 g8 g9 g10 g11 g12 g13 g14 g15 g16 g17 g18 g19 g25 g26 g27 g28 g29 g30 g31 g32 g33 g34 g35 g36 g37 g38 g39 g40 g41 g42 g43 g44 hsz hd
        subst hd
        have hl : tt = #[tt[0]?.getD undef, tt[1]?.getD undef, tt[2]?.getD undef, tt[3]?.getD undef, tt[4]?.getD undef, tt[5]?.getD undef, tt[6]?.getD undef, tt[7]?.getD undef, tt[8]?.getD undef, tt[9]?.getD undef, tt[10]?.getD undef, tt[11]?.getD undef, tt[12]?.getD undef, tt[13]?.getD undef, tt[14]?.getD undef, tt[15]?.getD undef, tt[16]?.getD undef, tt[17]?.getD undef, tt[18]?.getD undef, tt[19]?.getD undef, tt[20]?.getD undef, tt[21]?.getD undef, tt[22]?.getD undef, tt[23]?.getD undef, tt[24]?.getD undef, tt[25]?.getD undef, tt[26]?.getD undef, tt[27]?.getD undef, tt[28]?.getD undef, tt[29]?.getD undef, tt[30]?.getD undef, tt[31]?.getD undef, tt[32]?.getD undef, tt[33]?.getD undef, tt[34]?.getD undef, tt[35]?.getD undef, tt[36]?.getD undef, tt[37]?.getD undef, tt[38]?.getD undef, tt[39]?.getD undef, tt[40]?.getD undef, tt[41]?.getD undef, tt[42]?.getD undef, tt[43]?.getD undef, tt[44]?.getD undef] := (arr_lit hsz).trans rfl
        rw [g0, g1, g2, g3, g4, g5, g6, g7, g8, g9, g10, g11, g12, g13, g14, g15, g16, g17, g18, g19, g25, g26, g27, g28, g29, g30, g31, g32, g33, g34, g35, g36, g37, g38, g39, g40, g41, g42, g43, g44] at hl
        clear g0 g1 g2 g3 g4 g5 g6 g7 g8 g9 g10 g11 g12 g13 g14 g15 g16 g17 g18 g19 g25 g26 g27 g28 g29 g30 g31 g32 g33 g34 g35 g36 g37 g38 g39 g40 g41 g42 g43 g44 hsz
        generalize tt[20]?.getD undef = y20 at hl
        generalize tt[21]?.getD undef = y21 at hl
        generalize tt[22]?.getD undef = y22 at hl
        generalize tt[23]?.getD undef = y23 at hl
        generalize tt[24]?.getD undef = y24 at hl
        subst hl
        obtain ⟨w3, hww⟩ : ∃ x, x = wx := ⟨_, rfl⟩
        rw [← hww] at hB ⊢
        clear hww
        have B3 : Hid (Below w.heap.size w w3) := Lib.hid (below_of B2.out B2.out.size hB)
        have Z3 : Hid (w2.heap.size ≤ w3.heap.size) := Lib.hid hB.size
        have K_3 : Hid (BlkL w3 w.heap.size [.slice A a.length ca, .slice L l.length cl, .slice D d.length cd, .slice S n cs, .int .i64 c, .float .f32 hub, .float .f32 tip, .float .f32 e0, .float .f32 e1, .float .f32 e2, .float .f32 e3, .float .f32 p0, .float .f32 p1, .float .f32 p2, .float .f32 p3, .float .f32 p4, .float .f32 p5, .float .f32 p6, .float .f32 p7, .int .i64 st, .float .f32 sp, .float .f32 pi, .float .f32 en, .slice X fx.length cx, .slice Y fy.length cy, .float .f32 fr, .float .f32 fd, .float .f32 fs]) := Lib.hid (K_2.out.below hB)
        have K'_3 : Hid (BlkL w3 (w.heap.size + 1) [.slice A' a'.length ca', .slice L' l'.length cl', .slice D' d'.length cd', .slice S' n' cs', .int .i64 c', .float .f32 hub', .float .f32 tip', .float .f32 e0', .float .f32 e1', .float .f32 e2', .float .f32 e3', .float .f32 q0, .float .f32 q1, .float .f32 q2, .float .f32 q3, .float .f32 q4, .float .f32 q5, .float .f32 q6, .float .f32 q7, .int .i64 st', .float .f32 sp', .float .f32 pi', .float .f32 en', .slice X' fx'.length cx', .slice Y' fy'.length cy', .float .f32 fr', .float .f32 fd', .float .f32 fs']) := Lib.hid (K'_2.out.below hB)
        clear K_2 K'_2
        clear hB
        go_wp2_with (refine wpList_load_mid rfl 95 _ rfl w.heap.size 0 rfl [.slice A a.length ca, .slice L l.length cl, .slice D d.length cd, .slice S n cs, .int .i64 c, .float .f32 hub, .float .f32 tip, .float .f32 e0, .float .f32 e1, .float .f32 e2, .float .f32 e3, .float .f32 p0, .float .f32 p1, .float .f32 p2, .float .f32 p3, .float .f32 p4, .float .f32 p5, .float .f32 p6, .float .f32 p7, .int .i64 st, .float .f32 sp, .float .f32 pi, .float .f32 en, .slice X fx.length cx, .slice Y fy.length cy, .float .f32 fr, .float .f32 fd, .float .f32 fs] _ (rng K_3.out) Try.underlying95 rfl (by kernel_rfl) ?_)
        refine (l_toDesk A L D S ca cl cd n cs c hub tip a l d s e0 e1 e2 e3 p0 p1 p2 p3 p4 p5 p6 p7 st sp pi en X Y cx cy fx fy fr fd fs _ (HR.out.below B3.out) HNR.out (HF.out.below B3.out) HNF.out).mono ?_
        rintro e w4 ⟨y1, y2, y3, y4, y5, y6, rfl, yr, yf, b⟩
        have B4 : Hid (Below w.heap.size w w4) := Lib.hid (below_of B3.out B3.out.size b)
        have Z4 : Hid (w3.heap.size ≤ w4.heap.size) := Lib.hid b.size
        have K_4 : Hid (BlkL w4 w.heap.size [.slice A a.length ca, .slice L l.length cl, .slice D d.length cd, .slice S n cs, .int .i64 c, .float .f32 hub, .float .f32 tip, .float .f32 e0, .float .f32 e1, .float .f32 e2, .float .f32 e3, .float .f32 p0, .float .f32 p1, .float .f32 p2, .float .f32 p3, .float .f32 p4, .float .f32 p5, .float .f32 p6, .float .f32 p7, .int .i64 st, .float .f32 sp, .float .f32 pi, .float .f32 en, .slice X fx.length cx, .slice Y fy.length cy, .float .f32 fr, .float .f32 fd, .float .f32 fs]) := Lib.hid (K_3.out.below b)
        have K'_4 : Hid (BlkL w4 (w.heap.size + 1) [.slice A' a'.length ca', .slice L' l'.length cl', .slice D' d'.length cd', .slice S' n' cs', .int .i64 c', .float .f32 hub', .float .f32 tip', .float .f32 e0', .float .f32 e1', .float .f32 e2', .float .f32 e3', .float .f32 q0, .float .f32 q1, .float .f32 q2, .float .f32 q3, .float .f32 q4, .float .f32 q5, .float .f32 q6, .float .f32 q7, .int .i64 st', .float .f32 sp', .float .f32 pi', .float .f32 en', .slice X' fx'.length cx', .slice Y' fy'.length cy', .float .f32 fr', .float .f32 fd', .float .f32 fs']) := Lib.hid (K'_3.out.below b)
        clear K_3 K'_3
        clear b
        have ZZ5 : Hid (BlkL (w4.alloc (.cells #[.slice none 0 0, .slice none 0 0, .slice none 0 0, .slice none 0 0, .int .i64 0, .float .f32 0, .float .f32 0, .float .f32 0, .float .f32 0, .float .f32 0, .float .f32 0, .float .f32 0, .float .f32 0, .float .f32 0, .float .f32 0, .float .f32 0, .float .f32 0, .float .f32 0, .float .f32 0, .int .i64 0, .float .f32 0, .float .f32 0, .float .f32 0, .slice none 0 0, .slice none 0 0, .float .f32 0, .float .f32 0, .float .f32 0] 102)) w4.heap.size [.slice none 0 0, .slice none 0 0, .slice none 0 0, .slice none 0 0, .int .i64 0, .float .f32 0, .float .f32 0, .float .f32 0, .float .f32 0, .float .f32 0, .float .f32 0, .float .f32 0, .float .f32 0, .float .f32 0, .float .f32 0, .float .f32 0, .float .f32 0, .float .f32 0, .float .f32 0, .int .i64 0, .float .f32 0, .float .f32 0, .float .f32 0, .slice none 0 0, .slice none 0 0, .float .f32 0, .float .f32 0, .float .f32 0]) := Lib.hid (blkL_at w4 #[.slice none 0 0, .slice none 0 0, .slice none 0 0, .slice none 0 0, .int .i64 0, .float .f32 0, .float .f32 0, .float .f32 0, .float .f32 0, .float .f32 0, .float .f32 0, .float .f32 0, .float .f32 0, .float .f32 0, .float .f32 0, .float .f32 0, .float .f32 0, .float .f32 0, .float .f32 0, .int .i64 0, .float .f32 0, .float .f32 0, .float .f32 0, .slice none 0 0, .slice none 0 0, .float .f32 0, .float .f32 0, .float .f32 0] _ rfl)
        have HT : (w4.alloc (.cells #[.slice none 0 0, .slice none 0 0, .slice none 0 0, .slice none 0 0, .int .i64 0, .float .f32 0, .float .f32 0, .float .f32 0, .float .f32 0, .float .f32 0, .float .f32 0, .float .f32 0, .float .f32 0, .float .f32 0, .float .f32 0, .float .f32 0, .float .f32 0, .float .f32 0, .float .f32 0, .int .i64 0, .float .f32 0, .float .f32 0, .float .f32 0, .slice none 0 0, .slice none 0 0, .float .f32 0, .float .f32 0, .float .f32 0] 102)).there w4.heap.size 0 (#[.slice (some ⟨y1, 0, none⟩) a.length a.length, .slice (some ⟨y2, 0, none⟩) l.length l.length, .slice (some ⟨y3, 0, none⟩) d.length d.length, .slice (some ⟨y4, 0, none⟩) n n, .int .i64 c, .float .f32 hub, .float .f32 tip, .float .f32 e0, .float .f32 e1, .float .f32 e2, .float .f32 e3, .float .f32 p0, .float .f32 p1, .float .f32 p2, .float .f32 p3, .float .f32 p4, .float .f32 p5, .float .f32 p6, .float .f32 p7, .int .i64 st, .float .f32 sp, .float .f32 pi, .float .f32 en, .slice (some ⟨y5, 0, none⟩) fx.length fx.length, .slice (some ⟨y6, 0, none⟩) fy.length fy.length, .float .f32 fr, .float .f32 fd, .float .f32 fs] : Array Value).size := fun j hj => by
          obtain ⟨v, hv⟩ : ∃ v, ([.slice none 0 0, .slice none 0 0, .slice none 0 0, .slice none 0 0, .int .i64 0, .float .f32 0, .float .f32 0, .float .f32 0, .float .f32 0, .float .f32 0, .float .f32 0, .float .f32 0, .float .f32 0, .float .f32 0, .float .f32 0, .float .f32 0, .float .f32 0, .float .f32 0, .float .f32 0, .int .i64 0, .float .f32 0, .float .f32 0, .float .f32 0, .slice none 0 0, .slice none 0 0, .float .f32 0, .float .f32 0, .float .f32 0] : List Value)[j]? = some v := ⟨_, List.getElem?_eq_getElem (by simpa using hj)⟩
          rw [Nat.zero_add]
          exact ⟨by rw [(ZZ5.out.2 j v hv).1]; rfl, (ZZ5.out.2 j v hv).2⟩
        obtain ⟨w5, hw5⟩ : ∃ x, x = (w4.alloc (.cells #[.slice none 0 0, .slice none 0 0, .slice none 0 0, .slice none 0 0, .int .i64 0, .float .f32 0, .float .f32 0, .float .f32 0, .float .f32 0, .float .f32 0, .float .f32 0, .float .f32 0, .float .f32 0, .float .f32 0, .float .f32 0, .float .f32 0, .float .f32 0, .float .f32 0, .float .f32 0, .int .i64 0, .float .f32 0, .float .f32 0, .float .f32 0, .slice none 0 0, .slice none 0 0, .float .f32 0, .float .f32 0, .float .f32 0] 102)).setCells w4.heap.size 0 (#[.slice (some ⟨y1, 0, none⟩) a.length a.length, .slice (some ⟨y2, 0, none⟩) l.length l.length, .slice (some ⟨y3, 0, none⟩) d.length d.length, .slice (some ⟨y4, 0, none⟩) n n, .int .i64 c, .float .f32 hub, .float .f32 tip, .float .f32 e0, .float .f32 e1, .float .f32 e2, .float .f32 e3, .float .f32 p0, .float .f32 p1, .float .f32 p2, .float .f32 p3, .float .f32 p4, .float .f32 p5, .float .f32 p6, .float .f32 p7, .int .i64 st, .float .f32 sp, .float .f32 pi, .float .f32 en, .slice (some ⟨y5, 0, none⟩) fx.length fx.length, .slice (some ⟨y6, 0, none⟩) fy.length fy.length, .float .f32 fr, .float .f32 fd, .float .f32 fs] : Array Value).toList := ⟨_, rfl⟩
        have b : Below w4.heap.size w4 w5 := by rw [hw5]; exact setCells_keep (Q := fun W => Below w4.heap.size w4 W) (fun W j v h => h.setCell (by show w4.heap.size ≤ w4.heap.size; omega) v) _ _ _ ((Below.refl _ _).alloc (Nat.le_refl _) _)
        have B5 : Hid (Below w.heap.size w w5) := Lib.hid (below_of B4.out B4.out.size b)
        have Z5 : Hid (w4.heap.size ≤ w5.heap.size) := Lib.hid b.size
        have K_5 : Hid (BlkL w5 w.heap.size [.slice A a.length ca, .slice L l.length cl, .slice D d.length cd, .slice S n cs, .int .i64 c, .float .f32 hub, .float .f32 tip, .float .f32 e0, .float .f32 e1, .float .f32 e2, .float .f32 e3, .float .f32 p0, .float .f32 p1, .float .f32 p2, .float .f32 p3, .float .f32 p4, .float .f32 p5, .float .f32 p6, .float .f32 p7, .int .i64 st, .float .f32 sp, .float .f32 pi, .float .f32 en, .slice X fx.length cx, .slice Y fy.length cy, .float .f32 fr, .float .f32 fd, .float .f32 fs]) := Lib.hid (K_4.out.below b)
        have K'_5 : Hid (BlkL w5 (w.heap.size + 1) [.slice A' a'.length ca', .slice L' l'.length cl', .slice D' d'.length cd', .slice S' n' cs', .int .i64 c', .float .f32 hub', .float .f32 tip', .float .f32 e0', .float .f32 e1', .float .f32 e2', .float .f32 e3', .float .f32 q0, .float .f32 q1, .float .f32 q2, .float .f32 q3, .float .f32 q4, .float .f32 q5, .float .f32 q6, .float .f32 q7, .int .i64 st', .float .f32 sp', .float .f32 pi', .float .f32 en', .slice X' fx'.length cx', .slice Y' fy'.length cy', .float .f32 fr', .float .f32 fd', .float .f32 fs']) := Lib.hid (K'_4.out.below b)
        clear K_4 K'_4
        have XB : Hid (BlkL w5 w4.heap.size [.slice (some ⟨y1, 0, none⟩) a.length a.length, .slice (some ⟨y2, 0, none⟩) l.length l.length, .slice (some ⟨y3, 0, none⟩) d.length d.length, .slice (some ⟨y4, 0, none⟩) n n, .int .i64 c, .float .f32 hub, .float .f32 tip, .float .f32 e0, .float .f32 e1, .float .f32 e2, .float .f32 e3, .float .f32 p0, .float .f32 p1, .float .f32 p2, .float .f32 p3, .float .f32 p4, .float .f32 p5, .float .f32 p6, .float .f32 p7, .int .i64 st, .float .f32 sp, .float .f32 pi, .float .f32 en, .slice (some ⟨y5, 0, none⟩) fx.length fx.length, .slice (some ⟨y6, 0, none⟩) fy.length fy.length, .float .f32 fr, .float .f32 fd, .float .f32 fs]) := Lib.hid (by rw [hw5]; exact blkL_setCells ZZ5.out rfl)
        have Ry : Hid (Rt w5 (some ⟨y1, 0, none⟩) (some ⟨y2, 0, none⟩) (some ⟨y3, 0, none⟩) (some ⟨y4, 0, none⟩) a l d s) := Lib.hid (yr.below b)
        have Fy : Hid (Rs w5 (some ⟨y5, 0, none⟩) (some ⟨y6, 0, none⟩) fx fy) := Lib.hid (yf.below b)
        clear b yr yf ZZ5
        go_upto_region 10 with (refine wpList_store_mid rfl 102 _ _ rfl w4.heap.size 0 _ rfl rfl HT (by kernel_rfl) (all_oneCell_toArray (by simp [Value.oneCell'])) ?_)
        rw [← hw5]
        clear hw5 HT
        go_wp2_with (refine wpList_load_mid rfl 95 _ rfl (w.heap.size + 1) 0 rfl [.slice A' a'.length ca', .slice L' l'.length cl', .slice D' d'.length cd', .slice S' n' cs', .int .i64 c', .float .f32 hub', .float .f32 tip', .float .f32 e0', .float .f32 e1', .float .f32 e2', .float .f32 e3', .float .f32 q0, .float .f32 q1, .float .f32 q2, .float .f32 q3, .float .f32 q4, .float .f32 q5, .float .f32 q6, .float .f32 q7, .int .i64 st', .float .f32 sp', .float .f32 pi', .float .f32 en', .slice X' fx'.length cx', .slice Y' fy'.length cy', .float .f32 fr', .float .f32 fd', .float .f32 fs'] _ (rng K'_5.out) Try.underlying95 rfl (by kernel_rfl) ?_)
        refine (l_toDesk A' L' D' S' ca' cl' cd' n' cs' c' hub' tip' a' l' d' s' e0' e1' e2' e3' q0 q1 q2 q3 q4 q5 q6 q7 st' sp' pi' en' X' Y' cx' cy' fx' fy' fr' fd' fs' _ (HR'.out.below B5.out) HNR'.out (HF'.out.below B5.out) HNF'.out).mono ?_
        rintro e w6 ⟨x1, x2, x3, x4, x5, x6, rfl, xr, xf, b⟩
        have B6 : Hid (Below w.heap.size w w6) := Lib.hid (below_of B5.out B5.out.size b)
        have Z6 : Hid (w5.heap.size ≤ w6.heap.size) := Lib.hid b.size
        have K_6 : Hid (BlkL w6 w.heap.size [.slice A a.length ca, .slice L l.length cl, .slice D d.length cd, .slice S n cs, .int .i64 c, .float .f32 hub, .float .f32 tip, .float .f32 e0, .float .f32 e1, .float .f32 e2, .float .f32 e3, .float .f32 p0, .float .f32 p1, .float .f32 p2, .float .f32 p3, .float .f32 p4, .float .f32 p5, .float .f32 p6, .float .f32 p7, .int .i64 st, .float .f32 sp, .float .f32 pi, .float .f32 en, .slice X fx.length cx, .slice Y fy.length cy, .float .f32 fr, .float .f32 fd, .float .f32 fs]) := Lib.hid (K_5.out.below b)
        have K'_6 : Hid (BlkL w6 (w.heap.size + 1) [.slice A' a'.length ca', .slice L' l'.length cl', .slice D' d'.length cd', .slice S' n' cs', .int .i64 c', .float .f32 hub', .float .f32 tip', .float .f32 e0', .float .f32 e1', .float .f32 e2', .float .f32 e3', .float .f32 q0, .float .f32 q1, .float .f32 q2, .float .f32 q3, .float .f32 q4, .float .f32 q5, .float .f32 q6, .float .f32 q7, .int .i64 st', .float .f32 sp', .float .f32 pi', .float .f32 en', .slice X' fx'.length cx', .slice Y' fy'.length cy', .float .f32 fr', .float .f32 fd', .float .f32 fs']) := Lib.hid (K'_5.out.below b)
        have XB_1 : Hid (BlkL w6 w4.heap.size [.slice (some ⟨y1, 0, none⟩) a.length a.length, .slice (some ⟨y2, 0, none⟩) l.length l.length, .slice (some ⟨y3, 0, none⟩) d.length d.length, .slice (some ⟨y4, 0, none⟩) n n, .int .i64 c, .float .f32 hub, .float .f32 tip, .float .f32 e0, .float .f32 e1, .float .f32 e2, .float .f32 e3, .float .f32 p0, .float .f32 p1, .float .f32 p2, .float .f32 p3, .float .f32 p4, .float .f32 p5, .float .f32 p6, .float .f32 p7, .int .i64 st, .float .f32 sp, .float .f32 pi, .float .f32 en, .slice (some ⟨y5, 0, none⟩) fx.length fx.length, .slice (some ⟨y6, 0, none⟩) fy.length fy.length, .float .f32 fr, .float .f32 fd, .float .f32 fs]) := Lib.hid (XB.out.below b)
        have Ry_1 : Hid (Rt w6 (some ⟨y1, 0, none⟩) (some ⟨y2, 0, none⟩) (some ⟨y3, 0, none⟩) (some ⟨y4, 0, none⟩) a l d s) := Lib.hid (Ry.out.below b)
        have Fy_1 : Hid (Rs w6 (some ⟨y5, 0, none⟩) (some ⟨y6, 0, none⟩) fx fy) := Lib.hid (Fy.out.below b)
        clear K_5 K'_5 XB Ry Fy
        clear b
        have ZZ5 : Hid (BlkL (w6.alloc (.cells #[.slice none 0 0, .slice none 0 0, .slice none 0 0, .slice none 0 0, .int .i64 0, .float .f32 0, .float .f32 0, .float .f32 0, .float .f32 0, .float .f32 0, .float .f32 0, .float .f32 0, .float .f32 0, .float .f32 0, .float .f32 0, .float .f32 0, .float .f32 0, .float .f32 0, .float .f32 0, .int .i64 0, .float .f32 0, .float .f32 0, .float .f32 0, .slice none 0 0, .slice none 0 0, .float .f32 0, .float .f32 0, .float .f32 0] 102)) w6.heap.size [.slice none 0 0, .slice none 0 0, .slice none 0 0, .slice none 0 0, .int .i64 0, .float .f32 0, .float .f32 0, .float .f32 0, .float .f32 0, .float .f32 0, .float .f32 0, .float .f32 0, .float .f32 0, .float .f32 0, .float .f32 0, .float .f32 0, .float .f32 0, .float .f32 0, .float .f32 0, .int .i64 0, .float .f32 0, .float .f32 0, .float .f32 0, .slice none 0 0, .slice none 0 0, .float .f32 0, .float .f32 0, .float .f32 0]) := Lib.hid (blkL_at w6 #[.slice none 0 0, .slice none 0 0, .slice none 0 0, .slice none 0 0, .int .i64 0, .float .f32 0, .float .f32 0, .float .f32 0, .float .f32 0, .float .f32 0, .float .f32 0, .float .f32 0, .float .f32 0, .float .f32 0, .float .f32 0, .float .f32 0, .float .f32 0, .float .f32 0, .float .f32 0, .int .i64 0, .float .f32 0, .float .f32 0, .float .f32 0, .slice none 0 0, .slice none 0 0, .float .f32 0, .float .f32 0, .float .f32 0] _ rfl)
        have HT : (w6.alloc (.cells #[.slice none 0 0, .slice none 0 0, .slice none 0 0, .slice none 0 0, .int .i64 0, .float .f32 0, .float .f32 0, .float .f32 0, .float .f32 0, .float .f32 0, .float .f32 0, .float .f32 0, .float .f32 0, .float .f32 0, .float .f32 0, .float .f32 0, .float .f32 0, .float .f32 0, .float .f32 0, .int .i64 0, .float .f32 0, .float .f32 0, .float .f32 0, .slice none 0 0, .slice none 0 0, .float .f32 0, .float .f32 0, .float .f32 0] 102)).there w6.heap.size 0 (#[.slice (some ⟨x1, 0, none⟩) a'.length a'.length, .slice (some ⟨x2, 0, none⟩) l'.length l'.length, .slice (some ⟨x3, 0, none⟩) d'.length d'.length, .slice (some ⟨x4, 0, none⟩) n' n', .int .i64 c', .float .f32 hub', .float .f32 tip', .float .f32 e0', .float .f32 e1', .float .f32 e2', .float .f32 e3', .float .f32 q0, .float .f32 q1, .float .f32 q2, .float .f32 q3, .float .f32 q4, .float .f32 q5, .float .f32 q6, .float .f32 q7, .int .i64 st', .float .f32 sp', .float .f32 pi', .float .f32 en', .slice (some ⟨x5, 0, none⟩) fx'.length fx'.length, .slice (some ⟨x6, 0, none⟩) fy'.length fy'.length, .float .f32 fr', .float .f32 fd', .float .f32 fs'] : Array Value).size := fun j hj => by
          obtain ⟨v, hv⟩ : ∃ v, ([.slice none 0 0, .slice none 0 0, .slice none 0 0, .slice none 0 0, .int .i64 0, .float .f32 0, .float .f32 0, .float .f32 0, .float .f32 0, .float .f32 0, .float .f32 0, .float .f32 0, .float .f32 0, .float .f32 0, .float .f32 0, .float .f32 0, .float .f32 0, .float .f32 0, .float .f32 0, .int .i64 0, .float .f32 0, .float .f32 0, .float .f32 0, .slice none 0 0, .slice none 0 0, .float .f32 0, .float .f32 0, .float .f32 0] : List Value)[j]? = some v := ⟨_, List.getElem?_eq_getElem (by simpa using hj)⟩
          rw [Nat.zero_add]
          exact ⟨by rw [(ZZ5.out.2 j v hv).1]; rfl, (ZZ5.out.2 j v hv).2⟩
        obtain ⟨w7, hw5⟩ : ∃ x, x = (w6.alloc (.cells #[.slice none 0 0, .slice none 0 0, .slice none 0 0, .slice none 0 0, .int .i64 0, .float .f32 0, .float .f32 0, .float .f32 0, .float .f32 0, .float .f32 0, .float .f32 0, .float .f32 0, .float .f32 0, .float .f32 0, .float .f32 0, .float .f32 0, .float .f32 0, .float .f32 0, .float .f32 0, .int .i64 0, .float .f32 0, .float .f32 0, .float .f32 0, .slice none 0 0, .slice none 0 0, .float .f32 0, .float .f32 0, .float .f32 0] 102)).setCells w6.heap.size 0 (#[.slice (some ⟨x1, 0, none⟩) a'.length a'.length, .slice (some ⟨x2, 0, none⟩) l'.length l'.length, .slice (some ⟨x3, 0, none⟩) d'.length d'.length, .slice (some ⟨x4, 0, none⟩) n' n', .int .i64 c', .float .f32 hub', .float .f32 tip', .float .f32 e0', .float .f32 e1', .float .f32 e2', .float .f32 e3', .float .f32 q0, .float .f32 q1, .float .f32 q2, .float .f32 q3, .float .f32 q4, .float .f32 q5, .float .f32 q6, .float .f32 q7, .int .i64 st', .float .f32 sp', .float .f32 pi', .float .f32 en', .slice (some ⟨x5, 0, none⟩) fx'.length fx'.length, .slice (some ⟨x6, 0, none⟩) fy'.length fy'.length, .float .f32 fr', .float .f32 fd', .float .f32 fs'] : Array Value).toList := ⟨_, rfl⟩
        have b : Below w6.heap.size w6 w7 := by rw [hw5]; exact setCells_keep (Q := fun W => Below w6.heap.size w6 W) (fun W j v h => h.setCell (by show w6.heap.size ≤ w6.heap.size; omega) v) _ _ _ ((Below.refl _ _).alloc (Nat.le_refl _) _)
        have B7 : Hid (Below w.heap.size w w7) := Lib.hid (below_of B6.out B6.out.size b)
        have Z7 : Hid (w6.heap.size ≤ w7.heap.size) := Lib.hid b.size
        have K_7 : Hid (BlkL w7 w.heap.size [.slice A a.length ca, .slice L l.length cl, .slice D d.length cd, .slice S n cs, .int .i64 c, .float .f32 hub, .float .f32 tip, .float .f32 e0, .float .f32 e1, .float .f32 e2, .float .f32 e3, .float .f32 p0, .float .f32 p1, .float .f32 p2, .float .f32 p3, .float .f32 p4, .float .f32 p5, .float .f32 p6, .float .f32 p7, .int .i64 st, .float .f32 sp, .float .f32 pi, .float .f32 en, .slice X fx.length cx, .slice Y fy.length cy, .float .f32 fr, .float .f32 fd, .float .f32 fs]) := Lib.hid (K_6.out.below b)
        have K'_7 : Hid (BlkL w7 (w.heap.size + 1) [.slice A' a'.length ca', .slice L' l'.length cl', .slice D' d'.length cd', .slice S' n' cs', .int .i64 c', .float .f32 hub', .float .f32 tip', .float .f32 e0', .float .f32 e1', .float .f32 e2', .float .f32 e3', .float .f32 q0, .float .f32 q1, .float .f32 q2, .float .f32 q3, .float .f32 q4, .float .f32 q5, .float .f32 q6, .float .f32 q7, .int .i64 st', .float .f32 sp', .float .f32 pi', .float .f32 en', .slice X' fx'.length cx', .slice Y' fy'.length cy', .float .f32 fr', .float .f32 fd', .float .f32 fs']) := Lib.hid (K'_6.out.below b)
        have XB_2 : Hid (BlkL w7 w4.heap.size [.slice (some ⟨y1, 0, none⟩) a.length a.length, .slice (some ⟨y2, 0, none⟩) l.length l.length, .slice (some ⟨y3, 0, none⟩) d.length d.length, .slice (some ⟨y4, 0, none⟩) n n, .int .i64 c, .float .f32 hub, .float .f32 tip, .float .f32 e0, .float .f32 e1, .float .f32 e2, .float .f32 e3, .float .f32 p0, .float .f32 p1, .float .f32 p2, .float .f32 p3, .float .f32 p4, .float .f32 p5, .float .f32 p6, .float .f32 p7, .int .i64 st, .float .f32 sp, .float .f32 pi, .float .f32 en, .slice (some ⟨y5, 0, none⟩) fx.length fx.length, .slice (some ⟨y6, 0, none⟩) fy.length fy.length, .float .f32 fr, .float .f32 fd, .float .f32 fs]) := Lib.hid (XB_1.out.below b)
        have Ry_2 : Hid (Rt w7 (some ⟨y1, 0, none⟩) (some ⟨y2, 0, none⟩) (some ⟨y3, 0, none⟩) (some ⟨y4, 0, none⟩) a l d s) := Lib.hid (Ry_1.out.below b)
        have Fy_2 : Hid (Rs w7 (some ⟨y5, 0, none⟩) (some ⟨y6, 0, none⟩) fx fy) := Lib.hid (Fy_1.out.below b)
        clear K_6 K'_6 XB_1 Ry_1 Fy_1
        have XB' : Hid (BlkL w7 w6.heap.size [.slice (some ⟨x1, 0, none⟩) a'.length a'.length, .slice (some ⟨x2, 0, none⟩) l'.length l'.length, .slice (some ⟨x3, 0, none⟩) d'.length d'.length, .slice (some ⟨x4, 0, none⟩) n' n', .int .i64 c', .float .f32 hub', .float .f32 tip', .float .f32 e0', .float .f32 e1', .float .f32 e2', .float .f32 e3', .float .f32 q0, .float .f32 q1, .float .f32 q2, .float .f32 q3, .float .f32 q4, .float .f32 q5, .float .f32 q6, .float .f32 q7, .int .i64 st', .float .f32 sp', .float .f32 pi', .float .f32 en', .slice (some ⟨x5, 0, none⟩) fx'.length fx'.length, .slice (some ⟨x6, 0, none⟩) fy'.length fy'.length, .float .f32 fr', .float .f32 fd', .float .f32 fs']) := Lib.hid (by rw [hw5]; exact blkL_setCells ZZ5.out rfl)
        have Rx : Hid (Rt w7 (some ⟨x1, 0, none⟩) (some ⟨x2, 0, none⟩) (some ⟨x3, 0, none⟩) (some ⟨x4, 0, none⟩) a' l' d' s') := Lib.hid (xr.below b)
        have Fx : Hid (Rs w7 (some ⟨x5, 0, none⟩) (some ⟨x6, 0, none⟩) fx' fy') := Lib.hid (xf.below b)
        clear b xr xf ZZ5
        go_upto_region 11 with (refine wpList_store_mid rfl 102 _ _ rfl w6.heap.size 0 _ rfl rfl HT (by kernel_rfl) (all_oneCell_toArray (by simp [Value.oneCell'])) ?_)
        rw [← hw5]
        clear hw5 HT
        go_wp2_with (first | (refine wpList_load_mid rfl 102 _ rfl w4.heap.size 0 rfl [.slice (some ⟨y1, 0, none⟩) a.length a.length, .slice (some ⟨y2, 0, none⟩) l.length l.length, .slice (some ⟨y3, 0, none⟩) d.length d.length, .slice (some ⟨y4, 0, none⟩) n n, .int .i64 c, .float .f32 hub, .float .f32 tip, .float .f32 e0, .float .f32 e1, .float .f32 e2, .float .f32 e3, .float .f32 p0, .float .f32 p1, .float .f32 p2, .float .f32 p3, .float .f32 p4, .float .f32 p5, .float .f32 p6, .float .f32 p7, .int .i64 st, .float .f32 sp, .float .f32 pi, .float .f32 en, .slice (some ⟨y5, 0, none⟩) fx.length fx.length, .slice (some ⟨y6, 0, none⟩) fy.length fy.length, .float .f32 fr, .float .f32 fd, .float .f32 fs] _ (rng XB_2.out) Try.underlying102 rfl (by kernel_rfl) ?_) | (refine wpList_load_mid rfl 102 _ rfl w6.heap.size 0 rfl [.slice (some ⟨x1, 0, none⟩) a'.length a'.length, .slice (some ⟨x2, 0, none⟩) l'.length l'.length, .slice (some ⟨x3, 0, none⟩) d'.length d'.length, .slice (some ⟨x4, 0, none⟩) n' n', .int .i64 c', .float .f32 hub', .float .f32 tip', .float .f32 e0', .float .f32 e1', .float .f32 e2', .float .f32 e3', .float .f32 q0, .float .f32 q1, .float .f32 q2, .float .f32 q3, .float .f32 q4, .float .f32 q5, .float .f32 q6, .float .f32 q7, .int .i64 st', .float .f32 sp', .float .f32 pi', .float .f32 en', .slice (some ⟨x5, 0, none⟩) fx'.length fx'.length, .slice (some ⟨x6, 0, none⟩) fy'.length fy'.length, .float .f32 fr', .float .f32 fd', .float .f32 fs'] _ (rng XB'.out) Try.underlying102 rfl (by kernel_rfl) ?_))
        refine (i_SameDesk _ _ _ _ _ _ _ n _ c hub tip a l d s e0 e1 e2 e3 p0 p1 p2 p3 p4 p5 p6 p7 st sp pi en _ _ _ _ fx fy fr fd fs _ _ _ _ _ _ _ n' _ c' hub' tip' a' l' d' s' e0' e1' e2' e3' q0 q1 q2 q3 q4 q5 q6 q7 st' sp' pi' en' _ _ _ _ fx' fy' fr' fd' fs' _ Ry_2.out HNR.out Fy_2.out HNF.out HW.out Rx.out HNR'.out Fx.out HNF'.out HW'.out).mono ?_
        rintro e w8 ⟨rfl, b⟩
        have B8 : Hid (Below w.heap.size w w8) := Lib.hid (below_of B7.out B7.out.size b)
        have Z8 : Hid (w7.heap.size ≤ w8.heap.size) := Lib.hid b.size
        have K_8 : Hid (BlkL w8 w.heap.size [.slice A a.length ca, .slice L l.length cl, .slice D d.length cd, .slice S n cs, .int .i64 c, .float .f32 hub, .float .f32 tip, .float .f32 e0, .float .f32 e1, .float .f32 e2, .float .f32 e3, .float .f32 p0, .float .f32 p1, .float .f32 p2, .float .f32 p3, .float .f32 p4, .float .f32 p5, .float .f32 p6, .float .f32 p7, .int .i64 st, .float .f32 sp, .float .f32 pi, .float .f32 en, .slice X fx.length cx, .slice Y fy.length cy, .float .f32 fr, .float .f32 fd, .float .f32 fs]) := Lib.hid (K_7.out.below b)
        have K'_8 : Hid (BlkL w8 (w.heap.size + 1) [.slice A' a'.length ca', .slice L' l'.length cl', .slice D' d'.length cd', .slice S' n' cs', .int .i64 c', .float .f32 hub', .float .f32 tip', .float .f32 e0', .float .f32 e1', .float .f32 e2', .float .f32 e3', .float .f32 q0, .float .f32 q1, .float .f32 q2, .float .f32 q3, .float .f32 q4, .float .f32 q5, .float .f32 q6, .float .f32 q7, .int .i64 st', .float .f32 sp', .float .f32 pi', .float .f32 en', .slice X' fx'.length cx', .slice Y' fy'.length cy', .float .f32 fr', .float .f32 fd', .float .f32 fs']) := Lib.hid (K'_7.out.below b)
        have XB_3 : Hid (BlkL w8 w4.heap.size [.slice (some ⟨y1, 0, none⟩) a.length a.length, .slice (some ⟨y2, 0, none⟩) l.length l.length, .slice (some ⟨y3, 0, none⟩) d.length d.length, .slice (some ⟨y4, 0, none⟩) n n, .int .i64 c, .float .f32 hub, .float .f32 tip, .float .f32 e0, .float .f32 e1, .float .f32 e2, .float .f32 e3, .float .f32 p0, .float .f32 p1, .float .f32 p2, .float .f32 p3, .float .f32 p4, .float .f32 p5, .float .f32 p6, .float .f32 p7, .int .i64 st, .float .f32 sp, .float .f32 pi, .float .f32 en, .slice (some ⟨y5, 0, none⟩) fx.length fx.length, .slice (some ⟨y6, 0, none⟩) fy.length fy.length, .float .f32 fr, .float .f32 fd, .float .f32 fs]) := Lib.hid (XB_2.out.below b)
        have Ry_3 : Hid (Rt w8 (some ⟨y1, 0, none⟩) (some ⟨y2, 0, none⟩) (some ⟨y3, 0, none⟩) (some ⟨y4, 0, none⟩) a l d s) := Lib.hid (Ry_2.out.below b)
        have Fy_3 : Hid (Rs w8 (some ⟨y5, 0, none⟩) (some ⟨y6, 0, none⟩) fx fy) := Lib.hid (Fy_2.out.below b)
        have XB'_1 : Hid (BlkL w8 w6.heap.size [.slice (some ⟨x1, 0, none⟩) a'.length a'.length, .slice (some ⟨x2, 0, none⟩) l'.length l'.length, .slice (some ⟨x3, 0, none⟩) d'.length d'.length, .slice (some ⟨x4, 0, none⟩) n' n', .int .i64 c', .float .f32 hub', .float .f32 tip', .float .f32 e0', .float .f32 e1', .float .f32 e2', .float .f32 e3', .float .f32 q0, .float .f32 q1, .float .f32 q2, .float .f32 q3, .float .f32 q4, .float .f32 q5, .float .f32 q6, .float .f32 q7, .int .i64 st', .float .f32 sp', .float .f32 pi', .float .f32 en', .slice (some ⟨x5, 0, none⟩) fx'.length fx'.length, .slice (some ⟨x6, 0, none⟩) fy'.length fy'.length, .float .f32 fr', .float .f32 fd', .float .f32 fs']) := Lib.hid (XB'.out.below b)
        have Rx_1 : Hid (Rt w8 (some ⟨x1, 0, none⟩) (some ⟨x2, 0, none⟩) (some ⟨x3, 0, none⟩) (some ⟨x4, 0, none⟩) a' l' d' s') := Lib.hid (Rx.out.below b)
        have Fx_1 : Hid (Rs w8 (some ⟨x5, 0, none⟩) (some ⟨x6, 0, none⟩) fx' fy') := Lib.hid (Fx.out.below b)
        clear K_7 K'_7 XB_2 Ry_2 Fy_2 XB' Rx Fx
        clear b
        go_wp2_with fail
        refine wp_region_inv4 (fun iq wv v => match iq with
          | 0 => v = .agg #[.slice (some ⟨y1, 0, none⟩) a.length a.length, .slice (some ⟨y2, 0, none⟩) l.length l.length, .slice (some ⟨y3, 0, none⟩) d.length d.length, .slice (some ⟨y4, 0, none⟩) n n, .int .i64 c, .float .f32 hub, .float .f32 tip, .float .f32 e0, .float .f32 e1, .float .f32 e2, .float .f32 e3, .float .f32 p0, .float .f32 p1, .float .f32 p2, .float .f32 p3, .float .f32 p4, .float .f32 p5, .float .f32 p6, .float .f32 p7, .int .i64 st, .float .f32 sp, .float .f32 pi, .float .f32 en, .slice (some ⟨y5, 0, none⟩) fx.length fx.length, .slice (some ⟨y6, 0, none⟩) fy.length fy.length, .float .f32 fr, .float .f32 fd, .float .f32 fs]
          | 1 => v = .agg #[.slice A a.length ca, .slice L l.length cl, .slice D d.length cd, .slice S n cs, .int .i64 c, .float .f32 hub, .float .f32 tip, .float .f32 e0, .float .f32 e1, .float .f32 e2, .float .f32 e3, .float .f32 p0, .float .f32 p1, .float .f32 p2, .float .f32 p3, .float .f32 p4, .float .f32 p5, .float .f32 p6, .float .f32 p7, .int .i64 st, .float .f32 sp, .float .f32 pi, .float .f32 en, .slice X fx.length cx, .slice Y fy.length cy, .float .f32 fr, .float .f32 fd, .float .f32 fs]
          | 2 => ∃ z1 z2 z3 z4 z5 z6, v = .agg #[.slice (some ⟨z1, 0, none⟩) a.length a.length, .slice (some ⟨z2, 0, none⟩) l.length l.length, .slice (some ⟨z3, 0, none⟩) d.length d.length, .slice (some ⟨z4, 0, none⟩) n n, .int .i64 c, .float .f32 hub, .float .f32 tip, .float .f32 e0, .float .f32 e1, .float .f32 e2, .float .f32 e3, .float .f32 p0, .float .f32 p1, .float .f32 p2, .float .f32 p3, .float .f32 p4, .float .f32 p5, .float .f32 p6, .float .f32 p7, .int .i64 st, .float .f32 sp, .float .f32 pi, .float .f32 en, .slice (some ⟨z5, 0, none⟩) fx.length fx.length, .slice (some ⟨z6, 0, none⟩) fy.length fy.length, .float .f32 fr, .float .f32 fd, .float .f32 fs] ∧ Rt wv (some ⟨z1, 0, none⟩) (some ⟨z2, 0, none⟩) (some ⟨z3, 0, none⟩) (some ⟨z4, 0, none⟩) a l d s ∧ Rs wv (some ⟨z5, 0, none⟩) (some ⟨z6, 0, none⟩) fx fy
          | 3 => v = .bool true
          | 4 => v = .bool false
          | _ => False) (fun _ ww => Below w8.heap.size w8 ww) (fun w w' => Below w.heap.size w w') ?hmono (by kernel_rfl) (by kernel_rfl) ((Below.refl _ _).drew) ?hop ?hend
        case hmono =>
          intro i wa wb v hR hV
          rcases i with _ | _ | _ | _ | _ | i
          · exact hV
          · exact hV
          · obtain ⟨z1, z2, z3, z4, z5, z6, rfl, h1, h2⟩ := hV; exact ⟨z1, z2, z3, z4, z5, z6, rfl, h1.below hR, h2.below hR⟩
          · exact hV
          · exact hV
          · exact hV
        case hop =>
          intro q o hq listed act wx hI hnot hcl hall
          have hB := hI.cls
          rcases q with _ | _ | _ | _ | _ | q
          · simp at hq; subst hq
            have g7 : act.tmps[7]?.getD undef = .pointer (some ⟨w4.heap.size, 0, none⟩) := hI.kept 7 (by kernel_rfl)
            clear hI hall hnot hcl
            refine .inl ⟨wanted_none rfl, ?_⟩
            refine wp_load_mid 102 _ rfl w4.heap.size 0 (by simpa [go_sem] using g7) [.slice (some ⟨y1, 0, none⟩) a.length a.length, .slice (some ⟨y2, 0, none⟩) l.length l.length, .slice (some ⟨y3, 0, none⟩) d.length d.length, .slice (some ⟨y4, 0, none⟩) n n, .int .i64 c, .float .f32 hub, .float .f32 tip, .float .f32 e0, .float .f32 e1, .float .f32 e2, .float .f32 e3, .float .f32 p0, .float .f32 p1, .float .f32 p2, .float .f32 p3, .float .f32 p4, .float .f32 p5, .float .f32 p6, .float .f32 p7, .int .i64 st, .float .f32 sp, .float .f32 pi, .float .f32 en, .slice (some ⟨y5, 0, none⟩) fx.length fx.length, .slice (some ⟨y6, 0, none⟩) fy.length fy.length, .float .f32 fr, .float .f32 fd, .float .f32 fs] _ (rng (XB_3.out.below hB)) Try.underlying102 rfl (by kernel_rfl) ?_
            exact ⟨_, rfl, Below.refl _ _, rfl, hB⟩
          · simp at hq; subst hq
            have g2 : act.tmps[2]?.getD undef = .pointer (some ⟨w.heap.size, 0, none⟩) := hI.kept 2 (by kernel_rfl)
            clear hI hall hnot hcl
            refine .inl ⟨wanted_none rfl, ?_⟩
            refine wp_load_mid 95 _ rfl w.heap.size 0 (by simpa [go_sem] using g2) [.slice A a.length ca, .slice L l.length cl, .slice D d.length cd, .slice S n cs, .int .i64 c, .float .f32 hub, .float .f32 tip, .float .f32 e0, .float .f32 e1, .float .f32 e2, .float .f32 e3, .float .f32 p0, .float .f32 p1, .float .f32 p2, .float .f32 p3, .float .f32 p4, .float .f32 p5, .float .f32 p6, .float .f32 p7, .int .i64 st, .float .f32 sp, .float .f32 pi, .float .f32 en, .slice X fx.length cx, .slice Y fy.length cy, .float .f32 fr, .float .f32 fd, .float .f32 fs] _ (rng (K_8.out.below hB)) Try.underlying95 rfl (by kernel_rfl) ?_
            exact ⟨_, rfl, Below.refl _ _, rfl, hB⟩
          · simp at hq; subst hq
            have g36 : act.tmps[36]?.getD undef = .agg #[.slice A a.length ca, .slice L l.length cl, .slice D d.length cd, .slice S n cs, .int .i64 c, .float .f32 hub, .float .f32 tip, .float .f32 e0, .float .f32 e1, .float .f32 e2, .float .f32 e3, .float .f32 p0, .float .f32 p1, .float .f32 p2, .float .f32 p3, .float .f32 p4, .float .f32 p5, .float .f32 p6, .float .f32 p7, .int .i64 st, .float .f32 sp, .float .f32 pi, .float .f32 en, .slice X fx.length cx, .slice Y fy.length cy, .float .f32 fr, .float .f32 fd, .float .f32 fs] := hI.has 1 36 rfl (hall ⟨1, .data⟩ (by simp) rfl)
            clear hI hall hnot hcl
            refine .inl ⟨wanted_none rfl, ?_⟩
            unfold Oper.wp
            go_simp
            refine (l_toDesk A L D S ca cl cd n cs c hub tip a l d s e0 e1 e2 e3 p0 p1 p2 p3 p4 p5 p6 p7 st sp pi en X Y cx cy fx fy fr fd fs _ (HR.out.below (below_of B8.out B8.out.size hB)) HNR.out (HF.out.below (below_of B8.out B8.out.size hB)) HNF.out).mono ?_
            rintro e wy ⟨z1, z2, z3, z4, z5, z6, rfl, h1, h2, b8⟩
            exact ⟨_, rfl, b8, ⟨z1, z2, z3, z4, z5, z6, rfl, h1, h2⟩, below_of hB hB.size b8⟩
          · simp at hq; subst hq
            have g35 : act.tmps[35]?.getD undef = .agg #[.slice (some ⟨y1, 0, none⟩) a.length a.length, .slice (some ⟨y2, 0, none⟩) l.length l.length, .slice (some ⟨y3, 0, none⟩) d.length d.length, .slice (some ⟨y4, 0, none⟩) n n, .int .i64 c, .float .f32 hub, .float .f32 tip, .float .f32 e0, .float .f32 e1, .float .f32 e2, .float .f32 e3, .float .f32 p0, .float .f32 p1, .float .f32 p2, .float .f32 p3, .float .f32 p4, .float .f32 p5, .float .f32 p6, .float .f32 p7, .int .i64 st, .float .f32 sp, .float .f32 pi, .float .f32 en, .slice (some ⟨y5, 0, none⟩) fx.length fx.length, .slice (some ⟨y6, 0, none⟩) fy.length fy.length, .float .f32 fr, .float .f32 fd, .float .f32 fs] := hI.has 0 35 rfl (hall ⟨0, .data⟩ (by simp) rfl)
            obtain ⟨z1, z2, z3, z4, z5, z6, g37, zr, zf⟩ := hI.has 2 37 rfl (hall ⟨2, .data⟩ (by simp) rfl)
            clear hI hall hnot hcl
            refine .inl ⟨wanted_none rfl, ?_⟩
            unfold Oper.wp
            go_simp
            refine (l_eqDesk _ _ _ _ _ _ _ _ n c hub tip a l d s e0 e1 e2 e3 p0 p1 p2 p3 p4 p5 p6 p7 st sp pi en _ _ _ _ fx fy fr fd fs _ (Ry_3.out.below hB) zr HNR.out (Fy_3.out.below hB) zf HNF.out).mono ?_
            rintro e wy ⟨rfl, b8⟩
            exact ⟨_, rfl, b8, rfl, below_of hB hB.size b8⟩
          · simp at hq; subst hq
            have g38 : act.tmps[38]?.getD undef = .bool true := hI.has 3 38 rfl (hall ⟨3, .data⟩ (by simp) rfl)
            clear hI hall hnot hcl
            refine .inl ⟨wanted_none rfl, ?_⟩
            unfold Oper.wp
            go_simp
            all_goals first | exact ⟨_, rfl, Below.refl _ _, rfl, hB⟩ | exact ⟨Below.refl _ _, hB⟩ | exact Below.refl _ _
          · simp at hq
        case hend =>
          intro listed act wx hI hall
          have hB := hI.cls
          have g39 : act.tmps[39]?.getD undef = .bool false := hI.has 4 39 rfl (hall 4 (by decide))
          have g0 := hI.kept 0 (by kernel_rfl)
          conv at g0 => rhs; whnf
          have g1 := hI.kept 1 (by kernel_rfl)
          conv at g1 => rhs; whnf
          have g2 := hI.kept 2 (by kernel_rfl)
          conv at g2 => rhs; whnf
          have g3 := hI.kept 3 (by kernel_rfl)
          conv at g3 => rhs; whnf
          have g4 := hI.kept 4 (by kernel_rfl)
          conv at g4 => rhs; whnf
          have g5 := hI.kept 5 (by kernel_rfl)
          conv at g5 => rhs; whnf
          have g6 := hI.kept 6 (by kernel_rfl)
          conv at g6 => rhs; whnf
          have g7 := hI.kept 7 (by kernel_rfl)
          conv at g7 => rhs; whnf
          have g8 := hI.kept 8 (by kernel_rfl)
          conv at g8 => rhs; whnf
          have g9 := hI.kept 9 (by kernel_rfl)
          conv at g9 => rhs; whnf
          have g10 := hI.kept 10 (by kernel_rfl)
          conv at g10 => rhs; whnf
          have g11 := hI.kept 11 (by kernel_rfl)
          conv at g11 => rhs; whnf
          have g12 := hI.kept 12 (by kernel_rfl)
          conv at g12 => rhs; whnf
          have g13 := hI.kept 13 (by kernel_rfl)
          conv at g13 => rhs; whnf
          have g14 := hI.kept 14 (by kernel_rfl)
          conv at g14 => rhs; whnf
          have g15 := hI.kept 15 (by kernel_rfl)
          conv at g15 => rhs; whnf
          have g16 := hI.kept 16 (by kernel_rfl)
          conv at g16 => rhs; whnf
          have g17 := hI.kept 17 (by kernel_rfl)
          conv at g17 => rhs; whnf
          have g18 := hI.kept 18 (by kernel_rfl)
          conv at g18 => rhs; whnf
          have g19 := hI.kept 19 (by kernel_rfl)
          conv at g19 => rhs; whnf
          have g20 := hI.kept 20 (by kernel_rfl)
          conv at g20 => rhs; whnf
          have g21 := hI.kept 21 (by kernel_rfl)
          conv at g21 => rhs; whnf
          have g22 := hI.kept 22 (by kernel_rfl)
          conv at g22 => rhs; whnf
          have g23 := hI.kept 23 (by kernel_rfl)
          conv at g23 => rhs; whnf
          have g24 := hI.kept 24 (by kernel_rfl)
          conv at g24 => rhs; whnf
          have g25 := hI.kept 25 (by kernel_rfl)
          conv at g25 => rhs; whnf
          have g26 := hI.kept 26 (by kernel_rfl)
          conv at g26 => rhs; whnf
          have g27 := hI.kept 27 (by kernel_rfl)
          conv at g27 => rhs; whnf
          have g28 := hI.kept 28 (by kernel_rfl)
          conv at g28 => rhs; whnf
          have g29 := hI.kept 29 (by kernel_rfl)
          conv at g29 => rhs; whnf
          have g30 := hI.kept 30 (by kernel_rfl)
          conv at g30 => rhs; whnf
          have g31 := hI.kept 31 (by kernel_rfl)
          conv at g31 => rhs; whnf
          have g32 := hI.kept 32 (by kernel_rfl)
          conv at g32 => rhs; whnf
          have g33 := hI.kept 33 (by kernel_rfl)
          conv at g33 => rhs; whnf
          have g34 := hI.kept 34 (by kernel_rfl)
          conv at g34 => rhs; whnf
          have g40 : act.tmps[40]?.getD undef = undef := hI.kept 40 (by kernel_rfl)
          have g41 : act.tmps[41]?.getD undef = undef := hI.kept 41 (by kernel_rfl)
          have g42 : act.tmps[42]?.getD undef = undef := hI.kept 42 (by kernel_rfl)
          have g43 : act.tmps[43]?.getD undef = undef := hI.kept 43 (by kernel_rfl)
          have g44 : act.tmps[44]?.getD undef = undef := hI.kept 44 (by kernel_rfl)
          have hsz : act.tmps.size = 45 := hI.size.trans (by kernel_rfl)
          have hd := hI.defers
          clear hI hall
          obtain ⟨tt, dd⟩ := act
          simp only at g0 g1 g2 g3 g4 g5 g6 g7 g8 g9 g10 g11 g12 g13 g14 g15 g16 g17 g18 g19 g20 g21 g22 g23 g24 g25 g26 g27 g28 g29 g30 g31 g32 g33 g34 g39 g40 g41 g42 g43 g44 hsz hd
          subst hd
          have hl : tt = #[tt[0]?.getD undef, tt[1]?.getD undef, tt[2]?.getD undef, tt[3]?.getD undef, tt[4]?.getD undef, tt[5]?.getD undef, tt[6]?.getD undef, tt[7]?.getD undef, tt[8]?.getD undef, tt[9]?.getD undef, tt[10]?.getD undef, tt[11]?.getD undef, tt[12]?.getD undef, tt[13]?.getD undef, tt[14]?.getD undef, tt[15]?.getD undef, tt[16]?.getD undef, tt[17]?.getD undef, tt[18]?.getD undef, tt[19]?.getD undef, tt[20]?.getD undef, tt[21]?.getD undef, tt[22]?.getD undef, tt[23]?.getD undef, tt[24]?.getD undef, tt[25]?.getD undef, tt[26]?.getD undef, tt[27]?.getD undef, tt[28]?.getD undef, tt[29]?.getD undef, tt[30]?.getD undef, tt[31]?.getD undef, tt[32]?.getD undef, tt[33]?.getD undef, tt[34]?.getD undef, tt[35]?.getD undef, tt[36]?.getD undef, tt[37]?.getD undef, tt[38]?.getD undef, tt[39]?.getD undef, tt[40]?.getD undef, tt[41]?.getD undef, tt[42]?.getD undef, tt[43]?.getD undef, tt[44]?.getD undef] := (arr_lit hsz).trans rfl
          rw [g0, g1, g2, g3, g4, g5, g6, g7, g8, g9, g10, g11, g12, g13, g14, g15, g16, g17, g18, g19, g20, g21, g22, g23, g24, g25, g26, g27, g28, g29, g30, g31, g32, g33, g34, g39, g40, g41, g42, g43, g44] at hl
          clear g0 g1 g2 g3 g4 g5 g6 g7 g8 g9 g10 g11 g12 g13 g14 g15 g16 g17 g18 g19 g20 g21 g22 g23 g24 g25 g26 g27 g28 g29 g30 g31 g32 g33 g34 g39 g40 g41 g42 g43 g44 hsz
          generalize tt[35]?.getD undef = y35 at hl
          generalize tt[36]?.getD undef = y36 at hl
          generalize tt[37]?.getD undef = y37 at hl
          generalize tt[38]?.getD undef = y38 at hl
          subst hl
          obtain ⟨w9, hww⟩ : ∃ x, x = wx := ⟨_, rfl⟩
          rw [← hww] at hB ⊢
          clear hww
          have B9 : Hid (Below w.heap.size w w9) := Lib.hid (below_of B8.out B8.out.size hB)
          have Z9 : Hid (w8.heap.size ≤ w9.heap.size) := Lib.hid hB.size
          have K_9 : Hid (BlkL w9 w.heap.size [.slice A a.length ca, .slice L l.length cl, .slice D d.length cd, .slice S n cs, .int .i64 c, .float .f32 hub, .float .f32 tip, .float .f32 e0, .float .f32 e1, .float .f32 e2, .float .f32 e3, .float .f32 p0, .float .f32 p1, .float .f32 p2, .float .f32 p3, .float .f32 p4, .float .f32 p5, .float .f32 p6, .float .f32 p7, .int .i64 st, .float .f32 sp, .float .f32 pi, .float .f32 en, .slice X fx.length cx, .slice Y fy.length cy, .float .f32 fr, .float .f32 fd, .float .f32 fs]) := Lib.hid (K_8.out.below hB)
          have K'_9 : Hid (BlkL w9 (w.heap.size + 1) [.slice A' a'.length ca', .slice L' l'.length cl', .slice D' d'.length cd', .slice S' n' cs', .int .i64 c', .float .f32 hub', .float .f32 tip', .float .f32 e0', .float .f32 e1', .float .f32 e2', .float .f32 e3', .float .f32 q0, .float .f32 q1, .float .f32 q2, .float .f32 q3, .float .f32 q4, .float .f32 q5, .float .f32 q6, .float .f32 q7, .int .i64 st', .float .f32 sp', .float .f32 pi', .float .f32 en', .slice X' fx'.length cx', .slice Y' fy'.length cy', .float .f32 fr', .float .f32 fd', .float .f32 fs']) := Lib.hid (K'_8.out.below hB)
          have XB_4 : Hid (BlkL w9 w4.heap.size [.slice (some ⟨y1, 0, none⟩) a.length a.length, .slice (some ⟨y2, 0, none⟩) l.length l.length, .slice (some ⟨y3, 0, none⟩) d.length d.length, .slice (some ⟨y4, 0, none⟩) n n, .int .i64 c, .float .f32 hub, .float .f32 tip, .float .f32 e0, .float .f32 e1, .float .f32 e2, .float .f32 e3, .float .f32 p0, .float .f32 p1, .float .f32 p2, .float .f32 p3, .float .f32 p4, .float .f32 p5, .float .f32 p6, .float .f32 p7, .int .i64 st, .float .f32 sp, .float .f32 pi, .float .f32 en, .slice (some ⟨y5, 0, none⟩) fx.length fx.length, .slice (some ⟨y6, 0, none⟩) fy.length fy.length, .float .f32 fr, .float .f32 fd, .float .f32 fs]) := Lib.hid (XB_3.out.below hB)
          have Ry_4 : Hid (Rt w9 (some ⟨y1, 0, none⟩) (some ⟨y2, 0, none⟩) (some ⟨y3, 0, none⟩) (some ⟨y4, 0, none⟩) a l d s) := Lib.hid (Ry_3.out.below hB)
          have Fy_4 : Hid (Rs w9 (some ⟨y5, 0, none⟩) (some ⟨y6, 0, none⟩) fx fy) := Lib.hid (Fy_3.out.below hB)
          have XB'_2 : Hid (BlkL w9 w6.heap.size [.slice (some ⟨x1, 0, none⟩) a'.length a'.length, .slice (some ⟨x2, 0, none⟩) l'.length l'.length, .slice (some ⟨x3, 0, none⟩) d'.length d'.length, .slice (some ⟨x4, 0, none⟩) n' n', .int .i64 c', .float .f32 hub', .float .f32 tip', .float .f32 e0', .float .f32 e1', .float .f32 e2', .float .f32 e3', .float .f32 q0, .float .f32 q1, .float .f32 q2, .float .f32 q3, .float .f32 q4, .float .f32 q5, .float .f32 q6, .float .f32 q7, .int .i64 st', .float .f32 sp', .float .f32 pi', .float .f32 en', .slice (some ⟨x5, 0, none⟩) fx'.length fx'.length, .slice (some ⟨x6, 0, none⟩) fy'.length fy'.length, .float .f32 fr', .float .f32 fd', .float .f32 fs']) := Lib.hid (XB'_1.out.below hB)
          have Rx_2 : Hid (Rt w9 (some ⟨x1, 0, none⟩) (some ⟨x2, 0, none⟩) (some ⟨x3, 0, none⟩) (some ⟨x4, 0, none⟩) a' l' d' s') := Lib.hid (Rx_1.out.below hB)
          have Fx_2 : Hid (Rs w9 (some ⟨x5, 0, none⟩) (some ⟨x6, 0, none⟩) fx' fy') := Lib.hid (Fx_1.out.below hB)
          clear K_8 K'_8 XB_3 Ry_3 Fy_3 XB'_1 Rx_1 Fx_1
          clear hB
          go_wp2_with fail
          refine wp_region_inv4 (fun iq wv v => match iq with
            | 0 => v = .agg #[.slice (some ⟨x1, 0, none⟩) a'.length a'.length, .slice (some ⟨x2, 0, none⟩) l'.length l'.length, .slice (some ⟨x3, 0, none⟩) d'.length d'.length, .slice (some ⟨x4, 0, none⟩) n' n', .int .i64 c', .float .f32 hub', .float .f32 tip', .float .f32 e0', .float .f32 e1', .float .f32 e2', .float .f32 e3', .float .f32 q0, .float .f32 q1, .float .f32 q2, .float .f32 q3, .float .f32 q4, .float .f32 q5, .float .f32 q6, .float .f32 q7, .int .i64 st', .float .f32 sp', .float .f32 pi', .float .f32 en', .slice (some ⟨x5, 0, none⟩) fx'.length fx'.length, .slice (some ⟨x6, 0, none⟩) fy'.length fy'.length, .float .f32 fr', .float .f32 fd', .float .f32 fs']
            | 1 => v = .agg #[.slice A' a'.length ca', .slice L' l'.length cl', .slice D' d'.length cd', .slice S' n' cs', .int .i64 c', .float .f32 hub', .float .f32 tip', .float .f32 e0', .float .f32 e1', .float .f32 e2', .float .f32 e3', .float .f32 q0, .float .f32 q1, .float .f32 q2, .float .f32 q3, .float .f32 q4, .float .f32 q5, .float .f32 q6, .float .f32 q7, .int .i64 st', .float .f32 sp', .float .f32 pi', .float .f32 en', .slice X' fx'.length cx', .slice Y' fy'.length cy', .float .f32 fr', .float .f32 fd', .float .f32 fs']
            | 2 => ∃ z1 z2 z3 z4 z5 z6, v = .agg #[.slice (some ⟨z1, 0, none⟩) a'.length a'.length, .slice (some ⟨z2, 0, none⟩) l'.length l'.length, .slice (some ⟨z3, 0, none⟩) d'.length d'.length, .slice (some ⟨z4, 0, none⟩) n' n', .int .i64 c', .float .f32 hub', .float .f32 tip', .float .f32 e0', .float .f32 e1', .float .f32 e2', .float .f32 e3', .float .f32 q0, .float .f32 q1, .float .f32 q2, .float .f32 q3, .float .f32 q4, .float .f32 q5, .float .f32 q6, .float .f32 q7, .int .i64 st', .float .f32 sp', .float .f32 pi', .float .f32 en', .slice (some ⟨z5, 0, none⟩) fx'.length fx'.length, .slice (some ⟨z6, 0, none⟩) fy'.length fy'.length, .float .f32 fr', .float .f32 fd', .float .f32 fs'] ∧ Rt wv (some ⟨z1, 0, none⟩) (some ⟨z2, 0, none⟩) (some ⟨z3, 0, none⟩) (some ⟨z4, 0, none⟩) a' l' d' s' ∧ Rs wv (some ⟨z5, 0, none⟩) (some ⟨z6, 0, none⟩) fx' fy'
            | 3 => v = .bool true
            | 4 => v = .bool false
            | _ => False) (fun _ ww => Below w9.heap.size w9 ww) (fun w w' => Below w.heap.size w w') ?hmono (by kernel_rfl) (by kernel_rfl) ((Below.refl _ _).drew) ?hop ?hend
          case hmono =>
            intro i wa wb v hR hV
            rcases i with _ | _ | _ | _ | _ | i
            · exact hV
            · exact hV
            · obtain ⟨z1, z2, z3, z4, z5, z6, rfl, h1, h2⟩ := hV; exact ⟨z1, z2, z3, z4, z5, z6, rfl, h1.below hR, h2.below hR⟩
            · exact hV
            · exact hV
            · exact hV
          case hop =>
            intro q o hq listed act wx hI hnot hcl hall
            have hB := hI.cls
            rcases q with _ | _ | _ | _ | _ | q
            · simp at hq; subst hq
              have g8 : act.tmps[8]?.getD undef = .pointer (some ⟨w6.heap.size, 0, none⟩) := hI.kept 8 (by kernel_rfl)
              clear hI hall hnot hcl
              refine .inl ⟨wanted_none rfl, ?_⟩
              refine wp_load_mid 102 _ rfl w6.heap.size 0 (by simpa [go_sem] using g8) [.slice (some ⟨x1, 0, none⟩) a'.length a'.length, .slice (some ⟨x2, 0, none⟩) l'.length l'.length, .slice (some ⟨x3, 0, none⟩) d'.length d'.length, .slice (some ⟨x4, 0, none⟩) n' n', .int .i64 c', .float .f32 hub', .float .f32 tip', .float .f32 e0', .float .f32 e1', .float .f32 e2', .float .f32 e3', .float .f32 q0, .float .f32 q1, .float .f32 q2, .float .f32 q3, .float .f32 q4, .float .f32 q5, .float .f32 q6, .float .f32 q7, .int .i64 st', .float .f32 sp', .float .f32 pi', .float .f32 en', .slice (some ⟨x5, 0, none⟩) fx'.length fx'.length, .slice (some ⟨x6, 0, none⟩) fy'.length fy'.length, .float .f32 fr', .float .f32 fd', .float .f32 fs'] _ (rng (XB'_2.out.below hB)) Try.underlying102 rfl (by kernel_rfl) ?_
              exact ⟨_, rfl, Below.refl _ _, rfl, hB⟩
            · simp at hq; subst hq
              have g3 : act.tmps[3]?.getD undef = .pointer (some ⟨(w.heap.size + 1), 0, none⟩) := hI.kept 3 (by kernel_rfl)
              clear hI hall hnot hcl
              refine .inl ⟨wanted_none rfl, ?_⟩
              refine wp_load_mid 95 _ rfl (w.heap.size + 1) 0 (by simpa [go_sem] using g3) [.slice A' a'.length ca', .slice L' l'.length cl', .slice D' d'.length cd', .slice S' n' cs', .int .i64 c', .float .f32 hub', .float .f32 tip', .float .f32 e0', .float .f32 e1', .float .f32 e2', .float .f32 e3', .float .f32 q0, .float .f32 q1, .float .f32 q2, .float .f32 q3, .float .f32 q4, .float .f32 q5, .float .f32 q6, .float .f32 q7, .int .i64 st', .float .f32 sp', .float .f32 pi', .float .f32 en', .slice X' fx'.length cx', .slice Y' fy'.length cy', .float .f32 fr', .float .f32 fd', .float .f32 fs'] _ (rng (K'_9.out.below hB)) Try.underlying95 rfl (by kernel_rfl) ?_
              exact ⟨_, rfl, Below.refl _ _, rfl, hB⟩
            · simp at hq; subst hq
              have g41 : act.tmps[41]?.getD undef = .agg #[.slice A' a'.length ca', .slice L' l'.length cl', .slice D' d'.length cd', .slice S' n' cs', .int .i64 c', .float .f32 hub', .float .f32 tip', .float .f32 e0', .float .f32 e1', .float .f32 e2', .float .f32 e3', .float .f32 q0, .float .f32 q1, .float .f32 q2, .float .f32 q3, .float .f32 q4, .float .f32 q5, .float .f32 q6, .float .f32 q7, .int .i64 st', .float .f32 sp', .float .f32 pi', .float .f32 en', .slice X' fx'.length cx', .slice Y' fy'.length cy', .float .f32 fr', .float .f32 fd', .float .f32 fs'] := hI.has 1 41 rfl (hall ⟨1, .data⟩ (by simp) rfl)
              clear hI hall hnot hcl
              refine .inl ⟨wanted_none rfl, ?_⟩
              unfold Oper.wp
              go_simp
              refine (l_toDesk A' L' D' S' ca' cl' cd' n' cs' c' hub' tip' a' l' d' s' e0' e1' e2' e3' q0 q1 q2 q3 q4 q5 q6 q7 st' sp' pi' en' X' Y' cx' cy' fx' fy' fr' fd' fs' _ (HR'.out.below (below_of B9.out B9.out.size hB)) HNR'.out (HF'.out.below (below_of B9.out B9.out.size hB)) HNF'.out).mono ?_
              rintro e wy ⟨z1, z2, z3, z4, z5, z6, rfl, h1, h2, b8⟩
              exact ⟨_, rfl, b8, ⟨z1, z2, z3, z4, z5, z6, rfl, h1, h2⟩, below_of hB hB.size b8⟩
            · simp at hq; subst hq
              have g40 : act.tmps[40]?.getD undef = .agg #[.slice (some ⟨x1, 0, none⟩) a'.length a'.length, .slice (some ⟨x2, 0, none⟩) l'.length l'.length, .slice (some ⟨x3, 0, none⟩) d'.length d'.length, .slice (some ⟨x4, 0, none⟩) n' n', .int .i64 c', .float .f32 hub', .float .f32 tip', .float .f32 e0', .float .f32 e1', .float .f32 e2', .float .f32 e3', .float .f32 q0, .float .f32 q1, .float .f32 q2, .float .f32 q3, .float .f32 q4, .float .f32 q5, .float .f32 q6, .float .f32 q7, .int .i64 st', .float .f32 sp', .float .f32 pi', .float .f32 en', .slice (some ⟨x5, 0, none⟩) fx'.length fx'.length, .slice (some ⟨x6, 0, none⟩) fy'.length fy'.length, .float .f32 fr', .float .f32 fd', .float .f32 fs'] := hI.has 0 40 rfl (hall ⟨0, .data⟩ (by simp) rfl)
              obtain ⟨z1, z2, z3, z4, z5, z6, g42, zr, zf⟩ := hI.has 2 42 rfl (hall ⟨2, .data⟩ (by simp) rfl)
              clear hI hall hnot hcl
              refine .inl ⟨wanted_none rfl, ?_⟩
              unfold Oper.wp
              go_simp
              refine (l_eqDesk _ _ _ _ _ _ _ _ n' c' hub' tip' a' l' d' s' e0' e1' e2' e3' q0 q1 q2 q3 q4 q5 q6 q7 st' sp' pi' en' _ _ _ _ fx' fy' fr' fd' fs' _ (Rx_2.out.below hB) zr HNR'.out (Fx_2.out.below hB) zf HNF'.out).mono ?_
              rintro e wy ⟨rfl, b8⟩
              exact ⟨_, rfl, b8, rfl, below_of hB hB.size b8⟩
            · simp at hq; subst hq
              have g43 : act.tmps[43]?.getD undef = .bool true := hI.has 3 43 rfl (hall ⟨3, .data⟩ (by simp) rfl)
              clear hI hall hnot hcl
              refine .inl ⟨wanted_none rfl, ?_⟩
              unfold Oper.wp
              go_simp
              all_goals first | exact ⟨_, rfl, Below.refl _ _, rfl, hB⟩ | exact ⟨Below.refl _ _, hB⟩ | exact Below.refl _ _
            · simp at hq
          case hend =>
            intro listed act wx hI hall
            have hB := hI.cls
            have g44 : act.tmps[44]?.getD undef = .bool false := hI.has 4 44 rfl (hall 4 (by decide))
            have g0 := hI.kept 0 (by kernel_rfl)
            conv at g0 => rhs; whnf
            have g1 := hI.kept 1 (by kernel_rfl)
            conv at g1 => rhs; whnf
            have g2 := hI.kept 2 (by kernel_rfl)
            conv at g2 => rhs; whnf
            have g3 := hI.kept 3 (by kernel_rfl)
            conv at g3 => rhs; whnf
            have g4 := hI.kept 4 (by kernel_rfl)
            conv at g4 => rhs; whnf
            have g5 := hI.kept 5 (by kernel_rfl)
            conv at g5 => rhs; whnf
            have g6 := hI.kept 6 (by kernel_rfl)
            conv at g6 => rhs; whnf
            have g7 := hI.kept 7 (by kernel_rfl)
            conv at g7 => rhs; whnf
            have g8 := hI.kept 8 (by kernel_rfl)
            conv at g8 => rhs; whnf
            have g9 := hI.kept 9 (by kernel_rfl)
            conv at g9 => rhs; whnf
            have g10 := hI.kept 10 (by kernel_rfl)
            conv at g10 => rhs; whnf
            have g11 := hI.kept 11 (by kernel_rfl)
            conv at g11 => rhs; whnf
            have g12 := hI.kept 12 (by kernel_rfl)
            conv at g12 => rhs; whnf
            have g13 := hI.kept 13 (by kernel_rfl)
            conv at g13 => rhs; whnf
            have g14 := hI.kept 14 (by kernel_rfl)
            conv at g14 => rhs; whnf
            have g15 := hI.kept 15 (by kernel_rfl)
            conv at g15 => rhs; whnf
            have g16 := hI.kept 16 (by kernel_rfl)
            conv at g16 => rhs; whnf
            have g17 := hI.kept 17 (by kernel_rfl)
            conv at g17 => rhs; whnf
            have g18 := hI.kept 18 (by kernel_rfl)
            conv at g18 => rhs; whnf
            have g19 := hI.kept 19 (by kernel_rfl)
            conv at g19 => rhs; whnf
            have g20 := hI.kept 20 (by kernel_rfl)
            conv at g20 => rhs; whnf
            have g21 := hI.kept 21 (by kernel_rfl)
            conv at g21 => rhs; whnf
            have g22 := hI.kept 22 (by kernel_rfl)
            conv at g22 => rhs; whnf
            have g23 := hI.kept 23 (by kernel_rfl)
            conv at g23 => rhs; whnf
            have g24 := hI.kept 24 (by kernel_rfl)
            conv at g24 => rhs; whnf
            have g25 := hI.kept 25 (by kernel_rfl)
            conv at g25 => rhs; whnf
            have g26 := hI.kept 26 (by kernel_rfl)
            conv at g26 => rhs; whnf
            have g27 := hI.kept 27 (by kernel_rfl)
            conv at g27 => rhs; whnf
            have g28 := hI.kept 28 (by kernel_rfl)
            conv at g28 => rhs; whnf
            have g29 := hI.kept 29 (by kernel_rfl)
            conv at g29 => rhs; whnf
            have g30 := hI.kept 30 (by kernel_rfl)
            conv at g30 => rhs; whnf
            have g31 := hI.kept 31 (by kernel_rfl)
            conv at g31 => rhs; whnf
            have g32 := hI.kept 32 (by kernel_rfl)
            conv at g32 => rhs; whnf
            have g33 := hI.kept 33 (by kernel_rfl)
            conv at g33 => rhs; whnf
            have g34 := hI.kept 34 (by kernel_rfl)
            conv at g34 => rhs; whnf
            have g35 := hI.kept 35 (by kernel_rfl)
            conv at g35 => rhs; whnf
            have g36 := hI.kept 36 (by kernel_rfl)
            conv at g36 => rhs; whnf
            have g37 := hI.kept 37 (by kernel_rfl)
            conv at g37 => rhs; whnf
            have g38 := hI.kept 38 (by kernel_rfl)
            conv at g38 => rhs; whnf
            have g39 := hI.kept 39 (by kernel_rfl)
            conv at g39 => rhs; whnf
            have hsz : act.tmps.size = 45 := hI.size.trans (by kernel_rfl)
            have hd := hI.defers
            clear hI hall
            obtain ⟨tt, dd⟩ := act
            simp only at g0 g1 g2 g3 g4 g5 g6 g7 g8 g9 g10 g11 g12 g13 g14 g15 g16 g17 g18 g19 g20 g21 g22 g23 g24 g25 g26 g27 g28 g29 g30 g31 g32 g33 g34 g35 g36 g37 g38 g39 g44 hsz hd
            subst hd
            have hl : tt = #[tt[0]?.getD undef, tt[1]?.getD undef, tt[2]?.getD undef, tt[3]?.getD undef, tt[4]?.getD undef, tt[5]?.getD undef, tt[6]?.getD undef, tt[7]?.getD undef, tt[8]?.getD undef, tt[9]?.getD undef, tt[10]?.getD undef, tt[11]?.getD undef, tt[12]?.getD undef, tt[13]?.getD undef, tt[14]?.getD undef, tt[15]?.getD undef, tt[16]?.getD undef, tt[17]?.getD undef, tt[18]?.getD undef, tt[19]?.getD undef, tt[20]?.getD undef, tt[21]?.getD undef, tt[22]?.getD undef, tt[23]?.getD undef, tt[24]?.getD undef, tt[25]?.getD undef, tt[26]?.getD undef, tt[27]?.getD undef, tt[28]?.getD undef, tt[29]?.getD undef, tt[30]?.getD undef, tt[31]?.getD undef, tt[32]?.getD undef, tt[33]?.getD undef, tt[34]?.getD undef, tt[35]?.getD undef, tt[36]?.getD undef, tt[37]?.getD undef, tt[38]?.getD undef, tt[39]?.getD undef, tt[40]?.getD undef, tt[41]?.getD undef, tt[42]?.getD undef, tt[43]?.getD undef, tt[44]?.getD undef] := (arr_lit hsz).trans rfl
            rw [g0, g1, g2, g3, g4, g5, g6, g7, g8, g9, g10, g11, g12, g13, g14, g15, g16, g17, g18, g19, g20, g21, g22, g23, g24, g25, g26, g27, g28, g29, g30, g31, g32, g33, g34, g35, g36, g37, g38, g39, g44] at hl
            clear g0 g1 g2 g3 g4 g5 g6 g7 g8 g9 g10 g11 g12 g13 g14 g15 g16 g17 g18 g19 g20 g21 g22 g23 g24 g25 g26 g27 g28 g29 g30 g31 g32 g33 g34 g35 g36 g37 g38 g39 g44 hsz
            generalize tt[40]?.getD undef = y40 at hl
            generalize tt[41]?.getD undef = y41 at hl
            generalize tt[42]?.getD undef = y42 at hl
            generalize tt[43]?.getD undef = y43 at hl
            subst hl
            obtain ⟨w10, hww⟩ : ∃ x, x = wx := ⟨_, rfl⟩
            rw [← hww] at hB ⊢
            clear hww
            have B10 : Hid (Below w.heap.size w w10) := Lib.hid (below_of B9.out B9.out.size hB)
            have Z10 : Hid (w9.heap.size ≤ w10.heap.size) := Lib.hid hB.size
            have K_10 : Hid (BlkL w10 w.heap.size [.slice A a.length ca, .slice L l.length cl, .slice D d.length cd, .slice S n cs, .int .i64 c, .float .f32 hub, .float .f32 tip, .float .f32 e0, .float .f32 e1, .float .f32 e2, .float .f32 e3, .float .f32 p0, .float .f32 p1, .float .f32 p2, .float .f32 p3, .float .f32 p4, .float .f32 p5, .float .f32 p6, .float .f32 p7, .int .i64 st, .float .f32 sp, .float .f32 pi, .float .f32 en, .slice X fx.length cx, .slice Y fy.length cy, .float .f32 fr, .float .f32 fd, .float .f32 fs]) := Lib.hid (K_9.out.below hB)
            have K'_10 : Hid (BlkL w10 (w.heap.size + 1) [.slice A' a'.length ca', .slice L' l'.length cl', .slice D' d'.length cd', .slice S' n' cs', .int .i64 c', .float .f32 hub', .float .f32 tip', .float .f32 e0', .float .f32 e1', .float .f32 e2', .float .f32 e3', .float .f32 q0, .float .f32 q1, .float .f32 q2, .float .f32 q3, .float .f32 q4, .float .f32 q5, .float .f32 q6, .float .f32 q7, .int .i64 st', .float .f32 sp', .float .f32 pi', .float .f32 en', .slice X' fx'.length cx', .slice Y' fy'.length cy', .float .f32 fr', .float .f32 fd', .float .f32 fs']) := Lib.hid (K'_9.out.below hB)
            have XB_5 : Hid (BlkL w10 w4.heap.size [.slice (some ⟨y1, 0, none⟩) a.length a.length, .slice (some ⟨y2, 0, none⟩) l.length l.length, .slice (some ⟨y3, 0, none⟩) d.length d.length, .slice (some ⟨y4, 0, none⟩) n n, .int .i64 c, .float .f32 hub, .float .f32 tip, .float .f32 e0, .float .f32 e1, .float .f32 e2, .float .f32 e3, .float .f32 p0, .float .f32 p1, .float .f32 p2, .float .f32 p3, .float .f32 p4, .float .f32 p5, .float .f32 p6, .float .f32 p7, .int .i64 st, .float .f32 sp, .float .f32 pi, .float .f32 en, .slice (some ⟨y5, 0, none⟩) fx.length fx.length, .slice (some ⟨y6, 0, none⟩) fy.length fy.length, .float .f32 fr, .float .f32 fd, .float .f32 fs]) := Lib.hid (XB_4.out.below hB)
            have Ry_5 : Hid (Rt w10 (some ⟨y1, 0, none⟩) (some ⟨y2, 0, none⟩) (some ⟨y3, 0, none⟩) (some ⟨y4, 0, none⟩) a l d s) := Lib.hid (Ry_4.out.below hB)
            have Fy_5 : Hid (Rs w10 (some ⟨y5, 0, none⟩) (some ⟨y6, 0, none⟩) fx fy) := Lib.hid (Fy_4.out.below hB)
            have XB'_3 : Hid (BlkL w10 w6.heap.size [.slice (some ⟨x1, 0, none⟩) a'.length a'.length, .slice (some ⟨x2, 0, none⟩) l'.length l'.length, .slice (some ⟨x3, 0, none⟩) d'.length d'.length, .slice (some ⟨x4, 0, none⟩) n' n', .int .i64 c', .float .f32 hub', .float .f32 tip', .float .f32 e0', .float .f32 e1', .float .f32 e2', .float .f32 e3', .float .f32 q0, .float .f32 q1, .float .f32 q2, .float .f32 q3, .float .f32 q4, .float .f32 q5, .float .f32 q6, .float .f32 q7, .int .i64 st', .float .f32 sp', .float .f32 pi', .float .f32 en', .slice (some ⟨x5, 0, none⟩) fx'.length fx'.length, .slice (some ⟨x6, 0, none⟩) fy'.length fy'.length, .float .f32 fr', .float .f32 fd', .float .f32 fs']) := Lib.hid (XB'_2.out.below hB)
            have Rx_3 : Hid (Rt w10 (some ⟨x1, 0, none⟩) (some ⟨x2, 0, none⟩) (some ⟨x3, 0, none⟩) (some ⟨x4, 0, none⟩) a' l' d' s') := Lib.hid (Rx_2.out.below hB)
            have Fx_3 : Hid (Rs w10 (some ⟨x5, 0, none⟩) (some ⟨x6, 0, none⟩) fx' fy') := Lib.hid (Fx_2.out.below hB)
            clear K_9 K'_9 XB_4 Ry_4 Fy_4 XB'_2 Rx_2 Fx_2
            clear hB
            go_wp2
            go_ret
            exact ⟨rfl, B10.out⟩
    · skip
      go_enter Try.func13, Try.ntmps13
      go_upto_region 2 with fail
      rw [← hw0]
      clear hw0
      go_wp2_with (refine wpList_load_mid rfl 95 _ rfl w.heap.size 0 rfl [.slice A a.length ca, .slice L l.length cl, .slice D d.length cd, .slice S n cs, .int .i64 c, .float .f32 hub, .float .f32 tip, .float .f32 e0, .float .f32 e1, .float .f32 e2, .float .f32 e3, .float .f32 p0, .float .f32 p1, .float .f32 p2, .float .f32 p3, .float .f32 p4, .float .f32 p5, .float .f32 p6, .float .f32 p7, .int .i64 st, .float .f32 sp, .float .f32 pi, .float .f32 en, .slice X fx.length cx, .slice Y fy.length cy, .float .f32 fr, .float .f32 fd, .float .f32 fs] _ (rng K.out) Try.underlying95 rfl (by kernel_rfl) ?_)
      refine (l_szDesk_yes A L D S ca cl cd n cs c hub tip a l d s e0 e1 e2 e3 p0 p1 p2 p3 p4 p5 p6 p7 st sp pi en X Y cx cy fx fy fr fd fs _ _ (by omega) (by omega)).mono ?_
      rintro e w1 ⟨rfl, b⟩
      have B1 : Hid (Below w.heap.size w w1) := Lib.hid (below_of B0.out B0.out.size b)
      have Z1 : Hid (w0.heap.size ≤ w1.heap.size) := Lib.hid b.size
      have K_1 : Hid (BlkL w1 w.heap.size [.slice A a.length ca, .slice L l.length cl, .slice D d.length cd, .slice S n cs, .int .i64 c, .float .f32 hub, .float .f32 tip, .float .f32 e0, .float .f32 e1, .float .f32 e2, .float .f32 e3, .float .f32 p0, .float .f32 p1, .float .f32 p2, .float .f32 p3, .float .f32 p4, .float .f32 p5, .float .f32 p6, .float .f32 p7, .int .i64 st, .float .f32 sp, .float .f32 pi, .float .f32 en, .slice X fx.length cx, .slice Y fy.length cy, .float .f32 fr, .float .f32 fd, .float .f32 fs]) := Lib.hid (K.out.below b)
      have K'_1 : Hid (BlkL w1 (w.heap.size + 1) [.slice A' a'.length ca', .slice L' l'.length cl', .slice D' d'.length cd', .slice S' n' cs', .int .i64 c', .float .f32 hub', .float .f32 tip', .float .f32 e0', .float .f32 e1', .float .f32 e2', .float .f32 e3', .float .f32 q0, .float .f32 q1, .float .f32 q2, .float .f32 q3, .float .f32 q4, .float .f32 q5, .float .f32 q6, .float .f32 q7, .int .i64 st', .float .f32 sp', .float .f32 pi', .float .f32 en', .slice X' fx'.length cx', .slice Y' fy'.length cy', .float .f32 fr', .float .f32 fd', .float .f32 fs']) := Lib.hid (K'.out.below b)
      clear K K'
      clear b
      go_wp2_with (refine wpList_load_mid rfl 95 _ rfl (w.heap.size + 1) 0 rfl [.slice A' a'.length ca', .slice L' l'.length cl', .slice D' d'.length cd', .slice S' n' cs', .int .i64 c', .float .f32 hub', .float .f32 tip', .float .f32 e0', .float .f32 e1', .float .f32 e2', .float .f32 e3', .float .f32 q0, .float .f32 q1, .float .f32 q2, .float .f32 q3, .float .f32 q4, .float .f32 q5, .float .f32 q6, .float .f32 q7, .int .i64 st', .float .f32 sp', .float .f32 pi', .float .f32 en', .slice X' fx'.length cx', .slice Y' fy'.length cy', .float .f32 fr', .float .f32 fd', .float .f32 fs'] _ (rng K'_1.out) Try.underlying95 rfl (by kernel_rfl) ?_)
      refine (l_szDesk_no A' L' D' S' ca' cl' cd' n' cs' c' hub' tip' a' l' d' s' e0' e1' e2' e3' q0 q1 q2 q3 q4 q5 q6 q7 st' sp' pi' en' X' Y' cx' cy' fx' fy' fr' fd' fs' _ _ (by omega) (by omega) (by omega) ha' hl' hd' hnn' hx' hy').mono ?_
      rintro e w2 ⟨rfl, b⟩
      have B2 : Hid (Below w.heap.size w w2) := Lib.hid (below_of B1.out B1.out.size b)
      have Z2 : Hid (w1.heap.size ≤ w2.heap.size) := Lib.hid b.size
      have K_2 : Hid (BlkL w2 w.heap.size [.slice A a.length ca, .slice L l.length cl, .slice D d.length cd, .slice S n cs, .int .i64 c, .float .f32 hub, .float .f32 tip, .float .f32 e0, .float .f32 e1, .float .f32 e2, .float .f32 e3, .float .f32 p0, .float .f32 p1, .float .f32 p2, .float .f32 p3, .float .f32 p4, .float .f32 p5, .float .f32 p6, .float .f32 p7, .int .i64 st, .float .f32 sp, .float .f32 pi, .float .f32 en, .slice X fx.length cx, .slice Y fy.length cy, .float .f32 fr, .float .f32 fd, .float .f32 fs]) := Lib.hid (K_1.out.below b)
      have K'_2 : Hid (BlkL w2 (w.heap.size + 1) [.slice A' a'.length ca', .slice L' l'.length cl', .slice D' d'.length cd', .slice S' n' cs', .int .i64 c', .float .f32 hub', .float .f32 tip', .float .f32 e0', .float .f32 e1', .float .f32 e2', .float .f32 e3', .float .f32 q0, .float .f32 q1, .float .f32 q2, .float .f32 q3, .float .f32 q4, .float .f32 q5, .float .f32 q6, .float .f32 q7, .int .i64 st', .float .f32 sp', .float .f32 pi', .float .f32 en', .slice X' fx'.length cx', .slice Y' fy'.length cy', .float .f32 fr', .float .f32 fd', .float .f32 fs']) := Lib.hid (K'_1.out.below b)
      clear K_1 K'_1
      go_wp2
      go_ret
      exact ⟨rfl, B2.out⟩
  · skip
    go_enter Try.func13, Try.ntmps13
    go_upto_region 2 with fail
    rw [← hw0]
    clear hw0
    go_wp2_with (refine wpList_load_mid rfl 95 _ rfl w.heap.size 0 rfl [.slice A a.length ca, .slice L l.length cl, .slice D d.length cd, .slice S n cs, .int .i64 c, .float .f32 hub, .float .f32 tip, .float .f32 e0, .float .f32 e1, .float .f32 e2, .float .f32 e3, .float .f32 p0, .float .f32 p1, .float .f32 p2, .float .f32 p3, .float .f32 p4, .float .f32 p5, .float .f32 p6, .float .f32 p7, .int .i64 st, .float .f32 sp, .float .f32 pi, .float .f32 en, .slice X fx.length cx, .slice Y fy.length cy, .float .f32 fr, .float .f32 fd, .float .f32 fs] _ (rng K.out) Try.underlying95 rfl (by kernel_rfl) ?_)
    refine (l_szDesk_no A L D S ca cl cd n cs c hub tip a l d s e0 e1 e2 e3 p0 p1 p2 p3 p4 p5 p6 p7 st sp pi en X Y cx cy fx fy fr fd fs _ _ (by omega) (by omega) (by omega) ha hl hd hnn hx hy).mono ?_
    rintro e w1 ⟨rfl, b⟩
    have B1 : Hid (Below w.heap.size w w1) := Lib.hid (below_of B0.out B0.out.size b)
    have Z1 : Hid (w0.heap.size ≤ w1.heap.size) := Lib.hid b.size
    have K_1 : Hid (BlkL w1 w.heap.size [.slice A a.length ca, .slice L l.length cl, .slice D d.length cd, .slice S n cs, .int .i64 c, .float .f32 hub, .float .f32 tip, .float .f32 e0, .float .f32 e1, .float .f32 e2, .float .f32 e3, .float .f32 p0, .float .f32 p1, .float .f32 p2, .float .f32 p3, .float .f32 p4, .float .f32 p5, .float .f32 p6, .float .f32 p7, .int .i64 st, .float .f32 sp, .float .f32 pi, .float .f32 en, .slice X fx.length cx, .slice Y fy.length cy, .float .f32 fr, .float .f32 fd, .float .f32 fs]) := Lib.hid (K.out.below b)
    have K'_1 : Hid (BlkL w1 (w.heap.size + 1) [.slice A' a'.length ca', .slice L' l'.length cl', .slice D' d'.length cd', .slice S' n' cs', .int .i64 c', .float .f32 hub', .float .f32 tip', .float .f32 e0', .float .f32 e1', .float .f32 e2', .float .f32 e3', .float .f32 q0, .float .f32 q1, .float .f32 q2, .float .f32 q3, .float .f32 q4, .float .f32 q5, .float .f32 q6, .float .f32 q7, .int .i64 st', .float .f32 sp', .float .f32 pi', .float .f32 en', .slice X' fx'.length cx', .slice Y' fy'.length cy', .float .f32 fr', .float .f32 fd', .float .f32 fs']) := Lib.hid (K'.out.below b)
    clear K K'
    go_wp2
    go_ret
    exact ⟨rfl, B1.out⟩
end Go.Proofs.Ytiiiigldpbomkaa
