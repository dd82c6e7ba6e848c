/- Farms of the call's own: how the laws mark them. No statement is proved here. -/
import Derived.Test.YtmadlabnhjhfiaaFrm
import Derived.Test.YtmadlabnhjhfiaaMarkR
namespace Go.Proofs.Ytmadlabnhjhfiaa
open Go Go.RowKit
set_option maxHeartbeats 4000000 in
theorem l_markFarm (A L : Option Addr) (b1 b2 B0 ca cl k0 : Nat) (a l : List Nat) (r d s : Nat) (w : World) (h : OwnR2 w B0 A L b1 b2 a l) (hn : a.length + l.length ≤ 1048576) (hk0 : k0 ≤ 1048577) (K : Int) (hK : K = (k0 : Int)) :
    Calls Try.prog 45 #[.agg #[.slice A a.length ca, .slice L l.length cl, .float .f32 r, .float .f32 d, .float .f32 s], .int .i64 K] w fun e w' => e = .returned (.int .i64 ((k0 : Int) + (a.length : Int) + (l.length : Int))) ∧
      OwnR2 w' B0 A L b1 b2 (marks k0 a.length) (marks (k0 + a.length) l.length) ∧ Turn w w' (SR a l b1 b2) := by
  obtain ⟨h1, h2, n12⟩ := h
  have HB : ∀ o1, Hid (Below w.heap.size w (w.alloc o1)) := fun _ => Lib.hid ((Below.refl _ _).alloc (Nat.le_refl _) _)
  have H1 := Lib.hid h1
  have H2 := Lib.hid h2
  clear h1 h2
  subst hK
  go_enter Try.func45, Try.ntmps45
  go_wp2_with fail
  refine (l_markF32 A b1 ca k0 a _ (H1.out.below (HB _).out).a (by omega) (by omega) _ rfl).mono ?_
  rintro e w1 ⟨rfl, m1, t1⟩
  have K0 := blkL_at w #[.slice A a.length ca, .slice L l.length cl, .float .f32 r, .float .f32 d, .float .f32 s] 50 rfl
  have K1 : Hid (BlkL w1 w.heap.size [_, _, _, _, _]) := Lib.hid (BlkL.turnS K0 t1 (H1.out.notS (Nat.le_refl _)))
  have T1 : Hid (Turn w w1 (SR a l b1 b2)) := Lib.hid ((Turn.of_below (HB _).out _).trans (t1.mono (fun b hb => .inl hb)))
  have O2 : Hid (OwnO w1 B0 L b2 l) := Lib.hid ((H2.out.below (HB _).out).turn t1 (SB.ne (Ne.symm n12)))
  have O1 : Hid (OwnO w1 B0 A b1 (marks k0 a.length)) := Lib.hid (H1.out.mk' (marks_length _ _) m1)
  clear t1 m1 K0
  obtain ⟨k0', k1, -, -, -⟩ := K1.out.five
  go_wp2_with fail
  refine (l_markF32 L b2 cl (k0 + a.length) l _ O2.out.a (by omega) (by omega) _ (by omega)).mono ?_
  rintro e w2 ⟨rfl, m2, t2⟩
  have T2 : Hid (Turn w w2 (SR a l b1 b2)) := Lib.hid (T1.out.trans (t2.mono (fun b hb => .inr hb)))
  have P1 : Hid (OwnO w2 B0 A b1 (marks k0 a.length)) := Lib.hid (O1.out.turn t2 (SB.ne n12))
  have P2 : Hid (OwnO w2 B0 L b2 (marks (k0 + a.length) l.length)) := Lib.hid (O2.out.mk' (marks_length _ _) m2)
  clear t2 m2 k0' k1
  go_wp2
  go_ret
  exact ⟨rfl, ⟨P1.out, P2.out, n12⟩, T2.out⟩
set_option maxHeartbeats 4000000 in
theorem l_heldFarm (A L : Option Addr) (b1 b2 B0 ca cl k0 na nl r d s : Nat) (w : World) (h : OwnR2 w B0 A L b1 b2 (marks k0 na) (marks (k0 + na) nl)) (hn : na + nl ≤ 1048576) (hk0 : k0 ≤ 1048577) (K : Int) (hK : K = (k0 : Int)) :
    Calls Try.prog 46 #[.agg #[.slice A na ca, .slice L nl cl, .float .f32 r, .float .f32 d, .float .f32 s], .int .i64 K] w fun e w' => e = .returned (.int .i64 ((k0 : Int) + (na : Int) + (nl : Int))) ∧ Below w.heap.size w w' := by
  have HB : ∀ o1, Hid (Below w.heap.size w (w.alloc o1)) := fun _ => Lib.hid ((Below.refl _ _).alloc (Nat.le_refl _) _)
  have H1 := Lib.hid h.1
  have H2 := Lib.hid h.2.1
  clear h
  subst hK
  go_enter Try.func46, Try.ntmps46
  go_wp2_with fail
  refine (l_heldF32 A b1 ca k0 na _ (H1.out.below (HB _).out).a (by omega) (by omega) _ rfl).mono ?_
  rintro e w' ⟨m1, rfl, rfl⟩
  have g1 : (0 : Int) ≤ (k0 : Int) + (na : Int) := by omega
  have g2 : (0 : Int) ≤ (k0 : Int) + (na : Int) + (nl : Int) := by omega
  go_wp2_with fail
  refine (l_heldF32 L b2 cl (k0 + na) nl _ (H2.out.below (below_draws (HB _).out _)).a (by omega) (by omega) _ (by omega)).mono ?_
  rintro e w' ⟨m2, rfl, rfl⟩
  go_wp2
  go_ret
  exact ⟨rfl, by repeat (first | exact (HB _).out | refine below_draws ?_ _)⟩
end Go.Proofs.Ytmadlabnhjhfiaa
