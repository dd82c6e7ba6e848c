/- The law FnExactValidDesk. No statement is proved here. -/
import Derived.Test.YtbpklmclikajlaaDskT
import Derived.Test.YtbpklmclikajlaaDskE
import Derived.Test.YtbpklmclikajlaaDskV
import Derived.Test.YtbpklmclikajlaaInv4
import Derived.Deep.MidRow
import Derived.Deep.Cut
namespace Go.Proofs.Ytbpklmclikajlaa
open Go Go.RowKit
theorem rng {w : World} {B : Nat} {vs : List Value} (h : BlkL w B vs) : w.rangeAt B 0 vs := fun j v hj => by rw [Nat.zero_add]; exact (h.2 j v hj).1
theorem blkL_setCells {w : World} {B : Nat} {us vs : List Value} (h : BlkL w B us) (hl : us.length = vs.length) : BlkL (w.setCells B 0 vs) B vs := by
  have at_ : ∀ j, j < vs.length → ∃ v, us[j]? = some v := fun j hj => ⟨_, List.getElem?_eq_getElem (by omega)⟩
  have ht : w.there B 0 vs.length := fun j hj => by
    obtain ⟨v, hv⟩ := at_ j hj
    rw [Nat.zero_add]
    exact ⟨by rw [(h.2 j v hv).1]; rfl, (h.2 j v hv).2⟩
  refine ⟨setCells_keep (Q := fun W => B < W.heap.size) (fun W j v h => by simpa [World.setCell] using h) _ _ _ h.1, fun j v hj => ⟨?_, ?_⟩⟩
  · have := World.rangeAt_setCells_same w B 0 vs ht j v hj
    rwa [Nat.zero_add] at this
  · obtain ⟨u, hu⟩ := at_ j (List.getElem?_eq_some_iff.1 hj).1
    exact setCells_keep (Q := fun W => W.frozen? ⟨B, j, none⟩ = false) (fun W i u h => by rw [World.frozen?_setCell]; exact h) _ _ _ (h.2 j u hu).2
set_option maxHeartbeats 16000000 in
set_option maxRecDepth 100000 in
theorem law_FnExactValidDesk (A L D S : Option Addr) (ca cl cd n cs : Nat) (c : Int) (hub tip : Nat) (a l d s : List Nat) (e0 e1 e2 e3 : Nat) (p0 p1 p2 p3 p4 p5 p6 p7 : Nat) (st : Int) (sp pi en : Nat) (X Y : Option Addr) (cx cy : Nat) (fx fy : List Nat) (fr fd fs : Nat) (w : World) (hr : Rt w A L D S a l d s) (hs : s.length = n * 3) (ha : a.length ≤ 9223372036854775807) (hl : l.length ≤ 9223372036854775807) (hd : d.length ≤ 9223372036854775807) (hnn : n ≤ 9223372036854775807) (hf : Rs w X Y fx fy) (hx : fx.length ≤ 9223372036854775807) (hy : fy.length ≤ 9223372036854775807) :
    Calls Try.prog 3 #[.agg #[.slice A a.length ca, .slice L l.length cl, .slice D d.length cd, .slice S n cs, .int .i64 c, .float .f32 hub, .float .f32 tip, .float .f32 e0, .float .f32 e1, .float .f32 e2, .float .f32 e3, .float .f32 p0, .float .f32 p1, .float .f32 p2, .float .f32 p3, .float .f32 p4, .float .f32 p5, .float .f32 p6, .float .f32 p7, .int .i64 st, .float .f32 sp, .float .f32 pi, .float .f32 en, .slice X fx.length cx, .slice Y fy.length cy, .float .f32 fr, .float .f32 fd, .float .f32 fs]] w fun e w' => e = .returned (.bool true) ∧ Below w.heap.size w w' := by
  have HR := Lib.hid hr; clear hr
  have HF := Lib.hid hf; clear hf
  obtain ⟨w0, hw0⟩ : ∃ x, x = w.alloc (.cells #[.slice A a.length ca, .slice L l.length cl, .slice D d.length cd, .slice S n cs, .int .i64 c, .float .f32 hub, .float .f32 tip, .float .f32 e0, .float .f32 e1, .float .f32 e2, .float .f32 e3, .float .f32 p0, .float .f32 p1, .float .f32 p2, .float .f32 p3, .float .f32 p4, .float .f32 p5, .float .f32 p6, .float .f32 p7, .int .i64 st, .float .f32 sp, .float .f32 pi, .float .f32 en, .slice X fx.length cx, .slice Y fy.length cy, .float .f32 fr, .float .f32 fd, .float .f32 fs] 38) := ⟨_, rfl⟩
  have B0 : Hid (Below w.heap.size w w0) := Lib.hid (by rw [hw0]; exact (Below.refl _ _).alloc (Nat.le_refl _) _)
  have K0 : Hid (BlkL w0 w.heap.size [.slice A a.length ca, .slice L l.length cl, .slice D d.length cd, .slice S n cs, .int .i64 c, .float .f32 hub, .float .f32 tip, .float .f32 e0, .float .f32 e1, .float .f32 e2, .float .f32 e3, .float .f32 p0, .float .f32 p1, .float .f32 p2, .float .f32 p3, .float .f32 p4, .float .f32 p5, .float .f32 p6, .float .f32 p7, .int .i64 st, .float .f32 sp, .float .f32 pi, .float .f32 en, .slice X fx.length cx, .slice Y fy.length cy, .float .f32 fr, .float .f32 fd, .float .f32 fs]) := Lib.hid (by rw [hw0]; exact blkL_at w #[.slice A a.length ca, .slice L l.length cl, .slice D d.length cd, .slice S n cs, .int .i64 c, .float .f32 hub, .float .f32 tip, .float .f32 e0, .float .f32 e1, .float .f32 e2, .float .f32 e3, .float .f32 p0, .float .f32 p1, .float .f32 p2, .float .f32 p3, .float .f32 p4, .float .f32 p5, .float .f32 p6, .float .f32 p7, .int .i64 st, .float .f32 sp, .float .f32 pi, .float .f32 en, .slice X fx.length cx, .slice Y fy.length cy, .float .f32 fr, .float .f32 fd, .float .f32 fs] _ rfl)
  by_cases hq : (a.length : Int) + l.length + d.length + n + (fx.length + fy.length) ≤ 1048576
  · have HNR : Hid (FewR a l d s n) := Lib.hid ⟨hs, by omega⟩
    have HNF : Hid (FewS fx fy) := Lib.hid (by unfold FewS; omega)
    have hq0 : (0 : Int) ≤ 1048576 - a.length - l.length - d.length - n - fx.length - fy.length := by omega
    go_enter Try.func3, Try.ntmps3
    go_upto_region 2 with fail
    rw [← hw0]
    clear hw0
    go_wp2_with (refine wpList_load_mid rfl 38 _ rfl w.heap.size 0 rfl [.slice A a.length ca, .slice L l.length cl, .slice D d.length cd, .slice S n cs, .int .i64 c, .float .f32 hub, .float .f32 tip, .float .f32 e0, .float .f32 e1, .float .f32 e2, .float .f32 e3, .float .f32 p0, .float .f32 p1, .float .f32 p2, .float .f32 p3, .float .f32 p4, .float .f32 p5, .float .f32 p6, .float .f32 p7, .int .i64 st, .float .f32 sp, .float .f32 pi, .float .f32 en, .slice X fx.length cx, .slice Y fy.length cy, .float .f32 fr, .float .f32 fd, .float .f32 fs] _ (rng K0.out) Try.underlying38 rfl (by kernel_rfl) ?_)
    refine (l_szDesk_yes A L D S ca cl cd n cs c hub tip a l d s e0 e1 e2 e3 p0 p1 p2 p3 p4 p5 p6 p7 st sp pi en X Y cx cy fx fy fr fd fs _ _ hq (by omega)).mono ?_
    rintro e w1 ⟨rfl, b⟩
    have B1 : Hid (Below w.heap.size w w1) := Lib.hid (below_of B0.out B0.out.size b)
    have K1 : Hid (BlkL w1 w.heap.size [.slice A a.length ca, .slice L l.length cl, .slice D d.length cd, .slice S n cs, .int .i64 c, .float .f32 hub, .float .f32 tip, .float .f32 e0, .float .f32 e1, .float .f32 e2, .float .f32 e3, .float .f32 p0, .float .f32 p1, .float .f32 p2, .float .f32 p3, .float .f32 p4, .float .f32 p5, .float .f32 p6, .float .f32 p7, .int .i64 st, .float .f32 sp, .float .f32 pi, .float .f32 en, .slice X fx.length cx, .slice Y fy.length cy, .float .f32 fr, .float .f32 fd, .float .f32 fs]) := Lib.hid (K0.out.below b)
    clear b K0
    go_wp2_with (refine wpList_load_mid rfl 38 _ rfl w.heap.size 0 rfl [.slice A a.length ca, .slice L l.length cl, .slice D d.length cd, .slice S n cs, .int .i64 c, .float .f32 hub, .float .f32 tip, .float .f32 e0, .float .f32 e1, .float .f32 e2, .float .f32 e3, .float .f32 p0, .float .f32 p1, .float .f32 p2, .float .f32 p3, .float .f32 p4, .float .f32 p5, .float .f32 p6, .float .f32 p7, .int .i64 st, .float .f32 sp, .float .f32 pi, .float .f32 en, .slice X fx.length cx, .slice Y fy.length cy, .float .f32 fr, .float .f32 fd, .float .f32 fs] _ (rng K1.out) Try.underlying38 rfl (by kernel_rfl) ?_)
    refine (l_toDesk A L D S ca cl cd n cs c hub tip a l d s e0 e1 e2 e3 p0 p1 p2 p3 p4 p5 p6 p7 st sp pi en X Y cx cy fx fy fr fd fs _ (HR.out.below B1.out) HNR.out (HF.out.below B1.out) HNF.out).mono ?_
    rintro e w2 ⟨x1, x2, x3, x4, x5, x6, rfl, r, f, b⟩
    have B2 : Hid (Below w.heap.size w w2) := Lib.hid (below_of B1.out B1.out.size b)
    have K2 : Hid (BlkL w2 w.heap.size [.slice A a.length ca, .slice L l.length cl, .slice D d.length cd, .slice S n cs, .int .i64 c, .float .f32 hub, .float .f32 tip, .float .f32 e0, .float .f32 e1, .float .f32 e2, .float .f32 e3, .float .f32 p0, .float .f32 p1, .float .f32 p2, .float .f32 p3, .float .f32 p4, .float .f32 p5, .float .f32 p6, .float .f32 p7, .int .i64 st, .float .f32 sp, .float .f32 pi, .float .f32 en, .slice X fx.length cx, .slice Y fy.length cy, .float .f32 fr, .float .f32 fd, .float .f32 fs]) := Lib.hid (K1.out.below b)
    clear b K1
    go_wp2_with (refine wpList_load_mid rfl 38 _ rfl w.heap.size 0 rfl [.slice A a.length ca, .slice L l.length cl, .slice D d.length cd, .slice S n cs, .int .i64 c, .float .f32 hub, .float .f32 tip, .float .f32 e0, .float .f32 e1, .float .f32 e2, .float .f32 e3, .float .f32 p0, .float .f32 p1, .float .f32 p2, .float .f32 p3, .float .f32 p4, .float .f32 p5, .float .f32 p6, .float .f32 p7, .int .i64 st, .float .f32 sp, .float .f32 pi, .float .f32 en, .slice X fx.length cx, .slice Y fy.length cy, .float .f32 fr, .float .f32 fd, .float .f32 fs] _ (rng K2.out) Try.underlying38 rfl (by kernel_rfl) ?_)
    refine (s_ValidDesk _ _ _ _ _ _ _ n _ c hub tip a l d s e0 e1 e2 e3 p0 p1 p2 p3 p4 p5 p6 p7 st sp pi en _ _ _ _ fx fy fr fd fs _ r HNR.out f HNF.out).mono ?_
    rintro e w3 ⟨rfl, b⟩
    have B3 : Hid (Below w.heap.size w w3) := Lib.hid (below_of B2.out B2.out.size b)
    have K3 : Hid (BlkL w3 w.heap.size [.slice A a.length ca, .slice L l.length cl, .slice D d.length cd, .slice S n cs, .int .i64 c, .float .f32 hub, .float .f32 tip, .float .f32 e0, .float .f32 e1, .float .f32 e2, .float .f32 e3, .float .f32 p0, .float .f32 p1, .float .f32 p2, .float .f32 p3, .float .f32 p4, .float .f32 p5, .float .f32 p6, .float .f32 p7, .int .i64 st, .float .f32 sp, .float .f32 pi, .float .f32 en, .slice X fx.length cx, .slice Y fy.length cy, .float .f32 fr, .float .f32 fd, .float .f32 fs]) := Lib.hid (K2.out.below b)
    clear b K2 r f
    go_wp2_with (refine wpList_load_mid rfl 38 _ rfl w.heap.size 0 rfl [.slice A a.length ca, .slice L l.length cl, .slice D d.length cd, .slice S n cs, .int .i64 c, .float .f32 hub, .float .f32 tip, .float .f32 e0, .float .f32 e1, .float .f32 e2, .float .f32 e3, .float .f32 p0, .float .f32 p1, .float .f32 p2, .float .f32 p3, .float .f32 p4, .float .f32 p5, .float .f32 p6, .float .f32 p7, .int .i64 st, .float .f32 sp, .float .f32 pi, .float .f32 en, .slice X fx.length cx, .slice Y fy.length cy, .float .f32 fr, .float .f32 fd, .float .f32 fs] _ (rng K3.out) Try.underlying38 rfl (by kernel_rfl) ?_)
    refine (l_toDesk A L D S ca cl cd n cs c hub tip a l d s e0 e1 e2 e3 p0 p1 p2 p3 p4 p5 p6 p7 st sp pi en X Y cx cy fx fy fr fd fs _ (HR.out.below B3.out) HNR.out (HF.out.below B3.out) HNF.out).mono ?_
    rintro e w4 ⟨y1, y2, y3, y4, y5, y6, rfl, r, f, b⟩
    have B4 : Hid (Below w.heap.size w w4) := Lib.hid (below_of B3.out B3.out.size b)
    have K4 : Hid (BlkL w4 w.heap.size [.slice A a.length ca, .slice L l.length cl, .slice D d.length cd, .slice S n cs, .int .i64 c, .float .f32 hub, .float .f32 tip, .float .f32 e0, .float .f32 e1, .float .f32 e2, .float .f32 e3, .float .f32 p0, .float .f32 p1, .float .f32 p2, .float .f32 p3, .float .f32 p4, .float .f32 p5, .float .f32 p6, .float .f32 p7, .int .i64 st, .float .f32 sp, .float .f32 pi, .float .f32 en, .slice X fx.length cx, .slice Y fy.length cy, .float .f32 fr, .float .f32 fd, .float .f32 fs]) := Lib.hid (K3.out.below b)
    clear b K3
    have Z5 : Hid (BlkL (w4.alloc (.cells #[.slice none 0 0, .slice none 0 0, .slice none 0 0, .slice none 0 0, .int .i64 0, .float .f32 0, .float .f32 0, .float .f32 0, .float .f32 0, .float .f32 0, .float .f32 0, .float .f32 0, .float .f32 0, .float .f32 0, .float .f32 0, .float .f32 0, .float .f32 0, .float .f32 0, .float .f32 0, .int .i64 0, .float .f32 0, .float .f32 0, .float .f32 0, .slice none 0 0, .slice none 0 0, .float .f32 0, .float .f32 0, .float .f32 0] 51)) w4.heap.size [.slice none 0 0, .slice none 0 0, .slice none 0 0, .slice none 0 0, .int .i64 0, .float .f32 0, .float .f32 0, .float .f32 0, .float .f32 0, .float .f32 0, .float .f32 0, .float .f32 0, .float .f32 0, .float .f32 0, .float .f32 0, .float .f32 0, .float .f32 0, .float .f32 0, .float .f32 0, .int .i64 0, .float .f32 0, .float .f32 0, .float .f32 0, .slice none 0 0, .slice none 0 0, .float .f32 0, .float .f32 0, .float .f32 0]) := Lib.hid (blkL_at w4 #[.slice none 0 0, .slice none 0 0, .slice none 0 0, .slice none 0 0, .int .i64 0, .float .f32 0, .float .f32 0, .float .f32 0, .float .f32 0, .float .f32 0, .float .f32 0, .float .f32 0, .float .f32 0, .float .f32 0, .float .f32 0, .float .f32 0, .float .f32 0, .float .f32 0, .float .f32 0, .int .i64 0, .float .f32 0, .float .f32 0, .float .f32 0, .slice none 0 0, .slice none 0 0, .float .f32 0, .float .f32 0, .float .f32 0] _ rfl)
    have HT : (w4.alloc (.cells #[.slice none 0 0, .slice none 0 0, .slice none 0 0, .slice none 0 0, .int .i64 0, .float .f32 0, .float .f32 0, .float .f32 0, .float .f32 0, .float .f32 0, .float .f32 0, .float .f32 0, .float .f32 0, .float .f32 0, .float .f32 0, .float .f32 0, .float .f32 0, .float .f32 0, .float .f32 0, .int .i64 0, .float .f32 0, .float .f32 0, .float .f32 0, .slice none 0 0, .slice none 0 0, .float .f32 0, .float .f32 0, .float .f32 0] 51)).there w4.heap.size 0 (#[.slice (some ⟨y1, 0, none⟩) a.length a.length, .slice (some ⟨y2, 0, none⟩) l.length l.length, .slice (some ⟨y3, 0, none⟩) d.length d.length, .slice (some ⟨y4, 0, none⟩) n n, .int .i64 c, .float .f32 hub, .float .f32 tip, .float .f32 e0, .float .f32 e1, .float .f32 e2, .float .f32 e3, .float .f32 p0, .float .f32 p1, .float .f32 p2, .float .f32 p3, .float .f32 p4, .float .f32 p5, .float .f32 p6, .float .f32 p7, .int .i64 st, .float .f32 sp, .float .f32 pi, .float .f32 en, .slice (some ⟨y5, 0, none⟩) fx.length fx.length, .slice (some ⟨y6, 0, none⟩) fy.length fy.length, .float .f32 fr, .float .f32 fd, .float .f32 fs] : Array Value).size := fun j hj => by
      obtain ⟨v, hv⟩ : ∃ v, ([.slice none 0 0, .slice none 0 0, .slice none 0 0, .slice none 0 0, .int .i64 0, .float .f32 0, .float .f32 0, .float .f32 0, .float .f32 0, .float .f32 0, .float .f32 0, .float .f32 0, .float .f32 0, .float .f32 0, .float .f32 0, .float .f32 0, .float .f32 0, .float .f32 0, .float .f32 0, .int .i64 0, .float .f32 0, .float .f32 0, .float .f32 0, .slice none 0 0, .slice none 0 0, .float .f32 0, .float .f32 0, .float .f32 0] : List Value)[j]? = some v := ⟨_, List.getElem?_eq_getElem (by simpa using hj)⟩
      rw [Nat.zero_add]
      exact ⟨by rw [(Z5.out.2 j v hv).1]; rfl, (Z5.out.2 j v hv).2⟩
    obtain ⟨w5, hw5⟩ : ∃ x, x = (w4.alloc (.cells #[.slice none 0 0, .slice none 0 0, .slice none 0 0, .slice none 0 0, .int .i64 0, .float .f32 0, .float .f32 0, .float .f32 0, .float .f32 0, .float .f32 0, .float .f32 0, .float .f32 0, .float .f32 0, .float .f32 0, .float .f32 0, .float .f32 0, .float .f32 0, .float .f32 0, .float .f32 0, .int .i64 0, .float .f32 0, .float .f32 0, .float .f32 0, .slice none 0 0, .slice none 0 0, .float .f32 0, .float .f32 0, .float .f32 0] 51)).setCells w4.heap.size 0 (#[.slice (some ⟨y1, 0, none⟩) a.length a.length, .slice (some ⟨y2, 0, none⟩) l.length l.length, .slice (some ⟨y3, 0, none⟩) d.length d.length, .slice (some ⟨y4, 0, none⟩) n n, .int .i64 c, .float .f32 hub, .float .f32 tip, .float .f32 e0, .float .f32 e1, .float .f32 e2, .float .f32 e3, .float .f32 p0, .float .f32 p1, .float .f32 p2, .float .f32 p3, .float .f32 p4, .float .f32 p5, .float .f32 p6, .float .f32 p7, .int .i64 st, .float .f32 sp, .float .f32 pi, .float .f32 en, .slice (some ⟨y5, 0, none⟩) fx.length fx.length, .slice (some ⟨y6, 0, none⟩) fy.length fy.length, .float .f32 fr, .float .f32 fd, .float .f32 fs] : Array Value).toList := ⟨_, rfl⟩
    have b : Below w4.heap.size w4 w5 := by rw [hw5]; exact setCells_keep (Q := fun W => Below w4.heap.size w4 W) (fun W j v h => h.setCell (by show w4.heap.size ≤ w4.heap.size; omega) v) _ _ _ ((Below.refl _ _).alloc (Nat.le_refl _) _)
    have B5 : Hid (Below w.heap.size w w5) := Lib.hid (below_of B4.out B4.out.size b)
    have K5 : Hid (BlkL w5 w.heap.size [.slice A a.length ca, .slice L l.length cl, .slice D d.length cd, .slice S n cs, .int .i64 c, .float .f32 hub, .float .f32 tip, .float .f32 e0, .float .f32 e1, .float .f32 e2, .float .f32 e3, .float .f32 p0, .float .f32 p1, .float .f32 p2, .float .f32 p3, .float .f32 p4, .float .f32 p5, .float .f32 p6, .float .f32 p7, .int .i64 st, .float .f32 sp, .float .f32 pi, .float .f32 en, .slice X fx.length cx, .slice Y fy.length cy, .float .f32 fr, .float .f32 fd, .float .f32 fs]) := Lib.hid (K4.out.below b)
    have X5 : Hid (BlkL w5 w4.heap.size [.slice (some ⟨y1, 0, none⟩) a.length a.length, .slice (some ⟨y2, 0, none⟩) l.length l.length, .slice (some ⟨y3, 0, none⟩) d.length d.length, .slice (some ⟨y4, 0, none⟩) n n, .int .i64 c, .float .f32 hub, .float .f32 tip, .float .f32 e0, .float .f32 e1, .float .f32 e2, .float .f32 e3, .float .f32 p0, .float .f32 p1, .float .f32 p2, .float .f32 p3, .float .f32 p4, .float .f32 p5, .float .f32 p6, .float .f32 p7, .int .i64 st, .float .f32 sp, .float .f32 pi, .float .f32 en, .slice (some ⟨y5, 0, none⟩) fx.length fx.length, .slice (some ⟨y6, 0, none⟩) fy.length fy.length, .float .f32 fr, .float .f32 fd, .float .f32 fs]) := Lib.hid (by rw [hw5]; exact blkL_setCells Z5.out rfl)
    have R5 := Lib.hid (r.below b)
    have F5 := Lib.hid (f.below b)
    clear b K4 r f
    go_upto_region 7 with (refine wpList_store_mid rfl 51 _ _ rfl w4.heap.size 0 _ rfl rfl HT (by kernel_rfl) (all_oneCell_toArray (by simp [Value.oneCell'])) ?_)
    rw [← hw5]
    clear hw5
    go_wp2_with (refine wpList_load_mid rfl 51 _ rfl w4.heap.size 0 rfl [.slice (some ⟨y1, 0, none⟩) a.length a.length, .slice (some ⟨y2, 0, none⟩) l.length l.length, .slice (some ⟨y3, 0, none⟩) d.length d.length, .slice (some ⟨y4, 0, none⟩) n n, .int .i64 c, .float .f32 hub, .float .f32 tip, .float .f32 e0, .float .f32 e1, .float .f32 e2, .float .f32 e3, .float .f32 p0, .float .f32 p1, .float .f32 p2, .float .f32 p3, .float .f32 p4, .float .f32 p5, .float .f32 p6, .float .f32 p7, .int .i64 st, .float .f32 sp, .float .f32 pi, .float .f32 en, .slice (some ⟨y5, 0, none⟩) fx.length fx.length, .slice (some ⟨y6, 0, none⟩) fy.length fy.length, .float .f32 fr, .float .f32 fd, .float .f32 fs] _ (rng X5.out) Try.underlying51 rfl (by kernel_rfl) ?_)
    refine (i_ValidDesk _ _ _ _ _ _ _ n _ c hub tip a l d s e0 e1 e2 e3 p0 p1 p2 p3 p4 p5 p6 p7 st sp pi en _ _ _ _ fx fy fr fd fs _ R5.out HNR.out F5.out HNF.out).mono ?_
    rintro e w6 ⟨rfl, b⟩
    have B6 : Hid (Below w.heap.size w w6) := Lib.hid (below_of B5.out B5.out.size b)
    have K6 : Hid (BlkL w6 w.heap.size [.slice A a.length ca, .slice L l.length cl, .slice D d.length cd, .slice S n cs, .int .i64 c, .float .f32 hub, .float .f32 tip, .float .f32 e0, .float .f32 e1, .float .f32 e2, .float .f32 e3, .float .f32 p0, .float .f32 p1, .float .f32 p2, .float .f32 p3, .float .f32 p4, .float .f32 p5, .float .f32 p6, .float .f32 p7, .int .i64 st, .float .f32 sp, .float .f32 pi, .float .f32 en, .slice X fx.length cx, .slice Y fy.length cy, .float .f32 fr, .float .f32 fd, .float .f32 fs]) := Lib.hid (K5.out.below b)
    have X6 : Hid (BlkL w6 w4.heap.size [.slice (some ⟨y1, 0, none⟩) a.length a.length, .slice (some ⟨y2, 0, none⟩) l.length l.length, .slice (some ⟨y3, 0, none⟩) d.length d.length, .slice (some ⟨y4, 0, none⟩) n n, .int .i64 c, .float .f32 hub, .float .f32 tip, .float .f32 e0, .float .f32 e1, .float .f32 e2, .float .f32 e3, .float .f32 p0, .float .f32 p1, .float .f32 p2, .float .f32 p3, .float .f32 p4, .float .f32 p5, .float .f32 p6, .float .f32 p7, .int .i64 st, .float .f32 sp, .float .f32 pi, .float .f32 en, .slice (some ⟨y5, 0, none⟩) fx.length fx.length, .slice (some ⟨y6, 0, none⟩) fy.length fy.length, .float .f32 fr, .float .f32 fd, .float .f32 fs]) := Lib.hid (X5.out.below b)
    have R6 := Lib.hid (R5.out.below b)
    have F6 := Lib.hid (F5.out.below b)
    clear b K5 X5 R5 F5
    go_wp2_with fail
    refine wp_region_inv4 (fun iq wv v => match iq with
      | 0 => v = .agg #[.slice (some ⟨y1, 0, none⟩) a.length a.length, .slice (some ⟨y2, 0, none⟩) l.length l.length, .slice (some ⟨y3, 0, none⟩) d.length d.length, .slice (some ⟨y4, 0, none⟩) n n, .int .i64 c, .float .f32 hub, .float .f32 tip, .float .f32 e0, .float .f32 e1, .float .f32 e2, .float .f32 e3, .float .f32 p0, .float .f32 p1, .float .f32 p2, .float .f32 p3, .float .f32 p4, .float .f32 p5, .float .f32 p6, .float .f32 p7, .int .i64 st, .float .f32 sp, .float .f32 pi, .float .f32 en, .slice (some ⟨y5, 0, none⟩) fx.length fx.length, .slice (some ⟨y6, 0, none⟩) fy.length fy.length, .float .f32 fr, .float .f32 fd, .float .f32 fs]
      | 1 => v = .agg #[.slice A a.length ca, .slice L l.length cl, .slice D d.length cd, .slice S n cs, .int .i64 c, .float .f32 hub, .float .f32 tip, .float .f32 e0, .float .f32 e1, .float .f32 e2, .float .f32 e3, .float .f32 p0, .float .f32 p1, .float .f32 p2, .float .f32 p3, .float .f32 p4, .float .f32 p5, .float .f32 p6, .float .f32 p7, .int .i64 st, .float .f32 sp, .float .f32 pi, .float .f32 en, .slice X fx.length cx, .slice Y fy.length cy, .float .f32 fr, .float .f32 fd, .float .f32 fs]
      | 2 => ∃ z1 z2 z3 z4 z5 z6, v = .agg #[.slice (some ⟨z1, 0, none⟩) a.length a.length, .slice (some ⟨z2, 0, none⟩) l.length l.length, .slice (some ⟨z3, 0, none⟩) d.length d.length, .slice (some ⟨z4, 0, none⟩) n n, .int .i64 c, .float .f32 hub, .float .f32 tip, .float .f32 e0, .float .f32 e1, .float .f32 e2, .float .f32 e3, .float .f32 p0, .float .f32 p1, .float .f32 p2, .float .f32 p3, .float .f32 p4, .float .f32 p5, .float .f32 p6, .float .f32 p7, .int .i64 st, .float .f32 sp, .float .f32 pi, .float .f32 en, .slice (some ⟨z5, 0, none⟩) fx.length fx.length, .slice (some ⟨z6, 0, none⟩) fy.length fy.length, .float .f32 fr, .float .f32 fd, .float .f32 fs] ∧ Rt wv (some ⟨z1, 0, none⟩) (some ⟨z2, 0, none⟩) (some ⟨z3, 0, none⟩) (some ⟨z4, 0, none⟩) a l d s ∧ Rs wv (some ⟨z5, 0, none⟩) (some ⟨z6, 0, none⟩) fx fy
      | 3 => v = .bool true
      | 4 => v = .bool false
      | _ => False) (fun _ ww => Below w6.heap.size w6 ww) (fun w w' => Below w.heap.size w w') ?hmono (by kernel_rfl) (by kernel_rfl) ((Below.refl _ _).drew) ?hop ?hend
    case hmono =>
      intro i wa wb v hR hV
      rcases i with _ | _ | _ | _ | _ | i
      · exact hV
      · exact hV
      · obtain ⟨z1, z2, z3, z4, z5, z6, rfl, h1, h2⟩ := hV; exact ⟨z1, z2, z3, z4, z5, z6, rfl, h1.below hR, h2.below hR⟩
      · exact hV
      · exact hV
      · exact hV
    case hop =>
      intro q o hq listed act w7 hI hnot hcl hall
      have hB := hI.cls
      rcases q with _ | _ | _ | _ | _ | q
      · simp at hq; subst hq
        have g5 : act.tmps[5]?.getD undef = .pointer (some ⟨w4.heap.size, 0, none⟩) := hI.kept 5 (by kernel_rfl)
        clear hI hall hnot hcl
        refine .inl ⟨wanted_none rfl, ?_⟩
        refine wp_load_mid 51 _ rfl w4.heap.size 0 (by simpa [go_sem] using g5) [.slice (some ⟨y1, 0, none⟩) a.length a.length, .slice (some ⟨y2, 0, none⟩) l.length l.length, .slice (some ⟨y3, 0, none⟩) d.length d.length, .slice (some ⟨y4, 0, none⟩) n n, .int .i64 c, .float .f32 hub, .float .f32 tip, .float .f32 e0, .float .f32 e1, .float .f32 e2, .float .f32 e3, .float .f32 p0, .float .f32 p1, .float .f32 p2, .float .f32 p3, .float .f32 p4, .float .f32 p5, .float .f32 p6, .float .f32 p7, .int .i64 st, .float .f32 sp, .float .f32 pi, .float .f32 en, .slice (some ⟨y5, 0, none⟩) fx.length fx.length, .slice (some ⟨y6, 0, none⟩) fy.length fy.length, .float .f32 fr, .float .f32 fd, .float .f32 fs] _ (rng (X6.out.below hB)) Try.underlying51 rfl (by kernel_rfl) ?_
        exact ⟨_, rfl, Below.refl _ _, rfl, hB⟩
      · simp at hq; subst hq
        have g1 : act.tmps[1]?.getD undef = .pointer (some ⟨w.heap.size, 0, none⟩) := hI.kept 1 (by kernel_rfl)
        clear hI hall hnot hcl
        refine .inl ⟨wanted_none rfl, ?_⟩
        refine wp_load_mid 38 _ rfl w.heap.size 0 (by simpa [go_sem] using g1) [.slice A a.length ca, .slice L l.length cl, .slice D d.length cd, .slice S n cs, .int .i64 c, .float .f32 hub, .float .f32 tip, .float .f32 e0, .float .f32 e1, .float .f32 e2, .float .f32 e3, .float .f32 p0, .float .f32 p1, .float .f32 p2, .float .f32 p3, .float .f32 p4, .float .f32 p5, .float .f32 p6, .float .f32 p7, .int .i64 st, .float .f32 sp, .float .f32 pi, .float .f32 en, .slice X fx.length cx, .slice Y fy.length cy, .float .f32 fr, .float .f32 fd, .float .f32 fs] _ (rng (K6.out.below hB)) Try.underlying38 rfl (by kernel_rfl) ?_
        exact ⟨_, rfl, Below.refl _ _, rfl, hB⟩
      · simp at hq; subst hq
        have g23 : act.tmps[23]?.getD undef = .agg #[.slice A a.length ca, .slice L l.length cl, .slice D d.length cd, .slice S n cs, .int .i64 c, .float .f32 hub, .float .f32 tip, .float .f32 e0, .float .f32 e1, .float .f32 e2, .float .f32 e3, .float .f32 p0, .float .f32 p1, .float .f32 p2, .float .f32 p3, .float .f32 p4, .float .f32 p5, .float .f32 p6, .float .f32 p7, .int .i64 st, .float .f32 sp, .float .f32 pi, .float .f32 en, .slice X fx.length cx, .slice Y fy.length cy, .float .f32 fr, .float .f32 fd, .float .f32 fs] := hI.has 1 23 rfl (hall ⟨1, .data⟩ (by simp) rfl)
        clear hI hall hnot hcl
        refine .inl ⟨wanted_none rfl, ?_⟩
        unfold Oper.wp
        go_simp
        refine (l_toDesk A L D S ca cl cd n cs c hub tip a l d s e0 e1 e2 e3 p0 p1 p2 p3 p4 p5 p6 p7 st sp pi en X Y cx cy fx fy fr fd fs _ (HR.out.below (below_of B6.out B6.out.size hB)) HNR.out (HF.out.below (below_of B6.out B6.out.size hB)) HNF.out).mono ?_
        rintro e w8 ⟨z1, z2, z3, z4, z5, z6, rfl, h1, h2, b8⟩
        exact ⟨_, rfl, b8, ⟨z1, z2, z3, z4, z5, z6, rfl, h1, h2⟩, below_of hB hB.size b8⟩
      · simp at hq; subst hq
        have g22 : act.tmps[22]?.getD undef = .agg #[.slice (some ⟨y1, 0, none⟩) a.length a.length, .slice (some ⟨y2, 0, none⟩) l.length l.length, .slice (some ⟨y3, 0, none⟩) d.length d.length, .slice (some ⟨y4, 0, none⟩) n n, .int .i64 c, .float .f32 hub, .float .f32 tip, .float .f32 e0, .float .f32 e1, .float .f32 e2, .float .f32 e3, .float .f32 p0, .float .f32 p1, .float .f32 p2, .float .f32 p3, .float .f32 p4, .float .f32 p5, .float .f32 p6, .float .f32 p7, .int .i64 st, .float .f32 sp, .float .f32 pi, .float .f32 en, .slice (some ⟨y5, 0, none⟩) fx.length fx.length, .slice (some ⟨y6, 0, none⟩) fy.length fy.length, .float .f32 fr, .float .f32 fd, .float .f32 fs] := hI.has 0 22 rfl (hall ⟨0, .data⟩ (by simp) rfl)
        obtain ⟨z1, z2, z3, z4, z5, z6, g24, h1, h2⟩ := hI.has 2 24 rfl (hall ⟨2, .data⟩ (by simp) rfl)
        clear hI hall hnot hcl
        refine .inl ⟨wanted_none rfl, ?_⟩
        unfold Oper.wp
        go_simp
        refine (l_eqDesk _ _ _ _ _ _ _ _ n c hub tip a l d s e0 e1 e2 e3 p0 p1 p2 p3 p4 p5 p6 p7 st sp pi en _ _ _ _ fx fy fr fd fs _ (R6.out.below hB) h1 HNR.out (F6.out.below hB) h2 HNF.out).mono ?_
        rintro e w8 ⟨rfl, b8⟩
        exact ⟨_, rfl, b8, rfl, below_of hB hB.size b8⟩
      · simp at hq; subst hq
        have g25 : act.tmps[25]?.getD undef = .bool true := hI.has 3 25 rfl (hall ⟨3, .data⟩ (by simp) rfl)
        clear hI hall hnot hcl
        refine .inl ⟨wanted_none rfl, ?_⟩
        unfold Oper.wp
        go_simp
        all_goals first | exact ⟨_, rfl, Below.refl _ _, rfl, hB⟩ | exact ⟨Below.refl _ _, hB⟩ | exact Below.refl _ _
      · simp at hq
    case hend =>
      intro listed act w7 hI hall
      have hB := hI.cls
      have B7 : Hid (Below w.heap.size w w7) := Lib.hid (below_of B6.out B6.out.size hB)
      have g26 : act.tmps[26]?.getD undef = .bool false := hI.has 4 26 rfl (hall 4 (by decide))
      have g0 := hI.kept 0 (by kernel_rfl)
      conv at g0 => rhs; whnf
      have g1 := hI.kept 1 (by kernel_rfl)
      conv at g1 => rhs; whnf
      have g2 := hI.kept 2 (by kernel_rfl)
      conv at g2 => rhs; whnf
      have g3 := hI.kept 3 (by kernel_rfl)
      conv at g3 => rhs; whnf
      have g4 := hI.kept 4 (by kernel_rfl)
      conv at g4 => rhs; whnf
      have g5 := hI.kept 5 (by kernel_rfl)
      conv at g5 => rhs; whnf
      have g6 := hI.kept 6 (by kernel_rfl)
      conv at g6 => rhs; whnf
      have g7 := hI.kept 7 (by kernel_rfl)
      conv at g7 => rhs; whnf
      have g8 := hI.kept 8 (by kernel_rfl)
      conv at g8 => rhs; whnf
      have g9 := hI.kept 9 (by kernel_rfl)
      conv at g9 => rhs; whnf
      have g10 := hI.kept 10 (by kernel_rfl)
      conv at g10 => rhs; whnf
      have g11 := hI.kept 11 (by kernel_rfl)
      conv at g11 => rhs; whnf
      have g12 := hI.kept 12 (by kernel_rfl)
      conv at g12 => rhs; whnf
      have g13 := hI.kept 13 (by kernel_rfl)
      conv at g13 => rhs; whnf
      have g14 := hI.kept 14 (by kernel_rfl)
      conv at g14 => rhs; whnf
      have g15 := hI.kept 15 (by kernel_rfl)
      conv at g15 => rhs; whnf
      have g16 := hI.kept 16 (by kernel_rfl)
      conv at g16 => rhs; whnf
      have g17 := hI.kept 17 (by kernel_rfl)
      conv at g17 => rhs; whnf
      have g18 := hI.kept 18 (by kernel_rfl)
      conv at g18 => rhs; whnf
      have g19 := hI.kept 19 (by kernel_rfl)
      conv at g19 => rhs; whnf
      have g20 := hI.kept 20 (by kernel_rfl)
      conv at g20 => rhs; whnf
      have g21 := hI.kept 21 (by kernel_rfl)
      conv at g21 => rhs; whnf
      have hsz : act.tmps.size = 27 := hI.size.trans (by kernel_rfl)
      have hd := hI.defers
      clear hI hall
      obtain ⟨tt, dd⟩ := act
      simp only at g0 g1 g2 g3 g4 g5 g6 g7 g8 g9 g10 g11 g12 g13 g14 g15 g16 g17 g18 g19 g20 g21 g26 hsz hd
      subst hd
      have hl : tt = #[tt[0]?.getD undef, tt[1]?.getD undef, tt[2]?.getD undef, tt[3]?.getD undef, tt[4]?.getD undef, tt[5]?.getD undef, tt[6]?.getD undef, tt[7]?.getD undef, tt[8]?.getD undef, tt[9]?.getD undef, tt[10]?.getD undef, tt[11]?.getD undef, tt[12]?.getD undef, tt[13]?.getD undef, tt[14]?.getD undef, tt[15]?.getD undef, tt[16]?.getD undef, tt[17]?.getD undef, tt[18]?.getD undef, tt[19]?.getD undef, tt[20]?.getD undef, tt[21]?.getD undef, tt[22]?.getD undef, tt[23]?.getD undef, tt[24]?.getD undef, tt[25]?.getD undef, tt[26]?.getD undef] := (arr_lit hsz).trans rfl
      rw [g0, g1, g2, g3, g4, g5, g6, g7, g8, g9, g10, g11, g12, g13, g14, g15, g16, g17, g18, g19, g20, g21, g26] at hl
      clear g0 g1 g2 g3 g4 g5 g6 g7 g8 g9 g10 g11 g12 g13 g14 g15 g16 g17 g18 g19 g20 g21 g26 hsz
      generalize tt[22]?.getD undef = y22 at hl
      generalize tt[23]?.getD undef = y23 at hl
      generalize tt[24]?.getD undef = y24 at hl
      generalize tt[25]?.getD undef = y25 at hl
      subst hl
      go_wp2
      go_ret
      exact ⟨rfl, B7.out⟩
  · go_enter Try.func3, Try.ntmps3
    go_upto_region 2 with fail
    rw [← hw0]
    clear hw0
    go_wp2_with (refine wpList_load_mid rfl 38 _ rfl w.heap.size 0 rfl [.slice A a.length ca, .slice L l.length cl, .slice D d.length cd, .slice S n cs, .int .i64 c, .float .f32 hub, .float .f32 tip, .float .f32 e0, .float .f32 e1, .float .f32 e2, .float .f32 e3, .float .f32 p0, .float .f32 p1, .float .f32 p2, .float .f32 p3, .float .f32 p4, .float .f32 p5, .float .f32 p6, .float .f32 p7, .int .i64 st, .float .f32 sp, .float .f32 pi, .float .f32 en, .slice X fx.length cx, .slice Y fy.length cy, .float .f32 fr, .float .f32 fd, .float .f32 fs] _ (rng K0.out) Try.underlying38 rfl (by kernel_rfl) ?_)
    refine (l_szDesk_no A L D S ca cl cd n cs c hub tip a l d s e0 e1 e2 e3 p0 p1 p2 p3 p4 p5 p6 p7 st sp pi en X Y cx cy fx fy fr fd fs _ _ (by omega) (by omega) (by omega) ha hl hd hnn hx hy).mono ?_
    rintro e w1 ⟨rfl, b⟩
    have B1 : Hid (Below w.heap.size w w1) := Lib.hid (below_of B0.out B0.out.size b)
    go_wp2
    go_ret
    exact ⟨rfl, B1.out⟩
end Go.Proofs.Ytbpklmclikajlaa
