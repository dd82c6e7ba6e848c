/- Results in memory of their own: lists, roses, and blocks that nothing else turns. No statement is proved here. -/
import Derived.Test.YtpmjikchlofebaaMark
import Derived.Test.YtpmjikchlofebaaInv4
import Derived.Test.YtpmjikchlofebaaAir
namespace Go.Proofs.Ytpmjikchlofebaa
open Go Go.RowKit
theorem OwnO.turnS {w w' : World} {S : Nat → Prop} {B0 b : Nat} {A : Option Addr} {xs : List Nat} (h : OwnO w B0 A b xs) (ht : Turn w w' S) (hs : ∀ c, SB xs b c → ¬ S c) : OwnO w' B0 A b xs := by
  by_cases hx : xs = []
  · exact .inl hx
  · exact h.turn ht (hs _ ⟨hx, rfl⟩)
theorem OwnO.bd {w : World} {B0 b : Nat} {A : Option Addr} {xs : List Nat} (h : OwnO w B0 A b xs) {c : Nat} (hc : SB xs b c) : B0 ≤ c ∧ c < w.heap.size := by
  obtain ⟨h0, rfl⟩ := hc
  exact h.lt h0
theorem BlkL.turnS {w w' : World} {S : Nat → Prop} {B : Nat} {vs : List Value} (h : BlkL w B vs) (ht : Turn w w' S) (hs : ¬ S B) : BlkL w' B vs :=
  ⟨Nat.lt_of_lt_of_le h.1 ht.1, fun j v hj => ⟨by rw [ht.2.1 ⟨B, j, none⟩ h.1 hs]; exact (h.2 j v hj).1, by rw [ht.2.2.1 ⟨B, j, none⟩ h.1]; exact (h.2 j v hj).2⟩⟩
theorem Own.o {w : World} {B b : Nat} {xs : List Nat} (h : Own w b xs) (hB : B ≤ b) : OwnO w B (some ⟨b, 0, none⟩) b xs := .inr ⟨rfl, hB, h⟩
theorem OwnO.mk' {w w0 : World} {B0 b : Nat} {A : Option Addr} {xs ys : List Nat} (h : OwnO w0 B0 A b xs) (hl : ys.length = xs.length) (hm : xs = [] ∨ Own w b ys) : OwnO w B0 A b ys := by
  rcases h with h | ⟨h1, h2, -⟩
  · left; exact List.eq_nil_of_length_eq_zero (by rw [hl, h]; rfl)
  · rcases hm with h | h
    · left; exact List.eq_nil_of_length_eq_zero (by rw [hl, h]; rfl)
    · exact .inr ⟨h1, h2, h⟩
/-- a rose of the call's own, or an empty one -/
def OwnR2 (w : World) (B0 : Nat) (A L : Option Addr) (b1 b2 : Nat) (a l : List Nat) : Prop := OwnO w B0 A b1 a ∧ OwnO w B0 L b2 l ∧ b1 ≠ b2
def SR (a l : List Nat) (b1 b2 : Nat) : Nat → Prop := fun b => SB a b1 b ∨ SB l b2 b
theorem OwnR2.fl {w : World} {B0 b1 b2 : Nat} {A L : Option Addr} {a l : List Nat} (h : OwnR2 w B0 A L b1 b2 a l) : Fl w A a ∧ Fl w L l := ⟨h.1.fl, h.2.1.fl⟩
theorem OwnR2.below {w w' : World} {B0 b1 b2 : Nat} {A L : Option Addr} {a l : List Nat} (h : OwnR2 w B0 A L b1 b2 a l) (hb : Below w.heap.size w w') : OwnR2 w' B0 A L b1 b2 a l := ⟨h.1.below hb, h.2.1.below hb, h.2.2⟩
theorem OwnR2.bd {w : World} {B0 b1 b2 : Nat} {A L : Option Addr} {a l : List Nat} (h : OwnR2 w B0 A L b1 b2 a l) {c : Nat} (hc : SR a l b1 b2 c) : B0 ≤ c ∧ c < w.heap.size := by
  rcases hc with hc | hc
  · exact h.1.bd hc
  · exact h.2.1.bd hc
theorem OwnR2.turnS {w w' : World} {S : Nat → Prop} {B0 b1 b2 : Nat} {A L : Option Addr} {a l : List Nat} (h : OwnR2 w B0 A L b1 b2 a l) (ht : Turn w w' S) (hs : ∀ c, SR a l b1 b2 c → ¬ S c) : OwnR2 w' B0 A L b1 b2 a l :=
  ⟨h.1.turnS ht (fun c hc => hs c (.inl hc)), h.2.1.turnS ht (fun c hc => hs c (.inr hc)), h.2.2⟩
theorem OwnR2.of {w : World} {B b1 b2 : Nat} {a l : List Nat} (h1 : Own w b1 a) (h2 : Own w b2 l) (hB : B ≤ b1) (hb : b1 < b2) : OwnR2 w B (some ⟨b1, 0, none⟩) (some ⟨b2, 0, none⟩) b1 b2 a l := ⟨h1.o hB, h2.o (by omega), by omega⟩
set_option maxHeartbeats 4000000 in
theorem l_markRose (A L : Option Addr) (b1 b2 B0 ca cl k0 : Nat) (a l : List Nat) (w : World) (h : OwnR2 w B0 A L b1 b2 a l) (hn : a.length + l.length ≤ 1048576) (hk0 : k0 ≤ 1048577) (K : Int) (hK : K = (k0 : Int)) :
    Calls Try.prog 20 #[.agg #[.slice A a.length ca, .slice L l.length cl], .int .i64 K] w fun e w' => e = .returned (.int .i64 ((k0 : Int) + (a.length : Int) + (l.length : Int))) ∧
      OwnR2 w' B0 A L b1 b2 (marks k0 a.length) (marks (k0 + a.length) l.length) ∧ Turn w w' (SR a l b1 b2) := by
  obtain ⟨h1, h2, n12⟩ := h
  have HB : ∀ o1, Hid (Below w.heap.size w (w.alloc o1)) := fun _ => Lib.hid ((Below.refl _ _).alloc (Nat.le_refl _) _)
  have H1 := Lib.hid h1
  have H2 := Lib.hid h2
  clear h1 h2
  subst hK
  go_enter Try.func20, Try.ntmps20
  go_wp2_with fail
  refine (l_markF32 A b1 ca k0 a _ (H1.out.below (HB _).out).a (by omega) (by omega) _ rfl).mono ?_
  rintro e w1 ⟨rfl, m1, t1⟩
  have K0 := blkL_at w #[.slice A a.length ca, .slice L l.length cl] 34 rfl
  have K1 : Hid (BlkL w1 w.heap.size [_, _]) := Lib.hid (BlkL.turnS K0 t1 (H1.out.notS (Nat.le_refl _)))
  have T1 : Hid (Turn w w1 (SR a l b1 b2)) := Lib.hid ((Turn.of_below (HB _).out _).trans (t1.mono (fun b hb => .inl hb)))
  have O2 : Hid (OwnO w1 B0 L b2 l) := Lib.hid ((H2.out.below (HB _).out).turn t1 (SB.ne (Ne.symm n12)))
  have O1 : Hid (OwnO w1 B0 A b1 (marks k0 a.length)) := Lib.hid (H1.out.mk' (marks_length _ _) m1)
  clear t1 m1 K0
  obtain ⟨k0', k1⟩ := K1.out.two
  go_wp2_with fail
  refine (l_markF32 L b2 cl (k0 + a.length) l _ O2.out.a (by omega) (by omega) _ (by omega)).mono ?_
  rintro e w2 ⟨rfl, m2, t2⟩
  have T2 : Hid (Turn w w2 (SR a l b1 b2)) := Lib.hid (T1.out.trans (t2.mono (fun b hb => .inr hb)))
  have P1 : Hid (OwnO w2 B0 A b1 (marks k0 a.length)) := Lib.hid (O1.out.turn t2 (SB.ne n12))
  have P2 : Hid (OwnO w2 B0 L b2 (marks (k0 + a.length) l.length)) := Lib.hid (O2.out.mk' (marks_length _ _) m2)
  clear t2 m2 k0' k1
  go_wp2
  go_ret
  exact ⟨rfl, ⟨P1.out, P2.out, n12⟩, T2.out⟩
set_option maxHeartbeats 4000000 in
theorem l_heldRose (A L : Option Addr) (b1 b2 B0 ca cl k0 na nl : Nat) (w : World) (h : OwnR2 w B0 A L b1 b2 (marks k0 na) (marks (k0 + na) nl)) (hn : na + nl ≤ 1048576) (hk0 : k0 ≤ 1048577) (K : Int) (hK : K = (k0 : Int)) :
    Calls Try.prog 21 #[.agg #[.slice A na ca, .slice L nl cl], .int .i64 K] w fun e w' => e = .returned (.int .i64 ((k0 : Int) + (na : Int) + (nl : Int))) ∧ Below w.heap.size w w' := by
  have HB : ∀ o1, Hid (Below w.heap.size w (w.alloc o1)) := fun _ => Lib.hid ((Below.refl _ _).alloc (Nat.le_refl _) _)
  have H1 := Lib.hid h.1
  have H2 := Lib.hid h.2.1
  clear h
  subst hK
  go_enter Try.func21, Try.ntmps21
  go_wp2_with fail
  refine (l_heldF32 A b1 ca k0 na _ (H1.out.below (HB _).out).a (by omega) (by omega) _ rfl).mono ?_
  rintro e w' ⟨m1, rfl, rfl⟩
  have g1 : (0 : Int) ≤ (k0 : Int) + (na : Int) := by omega
  have g2 : (0 : Int) ≤ (k0 : Int) + (na : Int) + (nl : Int) := by omega
  go_wp2_with fail
  refine (l_heldF32 L b2 cl (k0 + na) nl _ (H2.out.below (below_draws (HB _).out _)).a (by omega) (by omega) _ (by omega)).mono ?_
  rintro e w' ⟨m2, rfl, rfl⟩
  go_wp2
  go_ret
  exact ⟨rfl, by repeat (first | exact (HB _).out | refine below_draws ?_ _)⟩
end Go.Proofs.Ytpmjikchlofebaa
