/- Rotors of the call's own: how the laws mark them. No statement is proved here. -/
import Derived.Test.YtahbcpjipomcgaaGreatRot
import Derived.Test.YtahbcpjipomcgaaGreatMarkR
import Derived.IntWalk
namespace Go.Proofs.YtahbcpjipomcgaaGreat
open Go Go.RowKit
set_option maxHeartbeats 4000000 in
theorem l_markStationS (A : Option Addr) (B cap k0 n : Nat) (s : List Nat) (w : World) (h : OwnA w A B s) (hs : s.length = n * 3) (hn : n ≤ 1048576) (hk0 : k0 ≤ 4194304) (K : Int) (hK : K = (k0 : Int)) :
    Calls Tryz.prog 50 #[.slice A n cap, .int .i64 K] w fun e w' => e = .returned (.int .i64 ((k0 : Int) + 3 * (n : Int))) ∧ (s = [] ∨ Own w' B (marks k0 s.length)) ∧ Turn w w' (SB s B) := by
  subst hK
  have H : Hid (OwnA w A B s) := Lib.hid h
  have HS0 := Lib.hid hs
  clear h hs
  go_enter Tryz.func50, Tryz.ntmps50
  go_wp2
  go_loopw [1, 5] (fun q i wr => ∃ k : Nat, k ≤ n ∧ i = .int .i64 k ∧ q = .int .i64 ((k0 : Int) + 3 * (k : Int)) ∧ Hid (OwnA wr A B (half s k0 (k * 3))) ∧ Hid (Turn w wr (SB s B))) (fun _ i _ => n - (intOf i).toNat)
  case atStart => exact ⟨0, Nat.zero_le _, rfl, by simp, Lib.hid (by rw [half_zero]; exact H.out), Lib.hid (Turn.refl _ _)⟩
  case round =>
    obtain ⟨k, hk, rfl, rfl, HO, HT⟩ := hrel
    by_cases hlt : k < n
    · rcases HO.out with h0 | ⟨rfl, ho⟩
      · have := congrArg List.length h0
        rw [half_length, HS0.out] at this
        simp at this; omega
      · clear HO H
        have hl0 : k * 3 < s.length := by rw [HS0.out]; omega
        have hl1 : k * 3 + 1 < s.length := by rw [HS0.out]; omega
        have hl2 : k * 3 + 2 < s.length := by rw [HS0.out]; omega
        have hQ0 : (0 : Int) ≤ (k0 : Int) + 3 * (k : Int) := by omega
        have hQ1 : (k0 : Int) + 3 * (k : Int) ≤ 7340032 := by omega
        have hQ : (k0 : Int) + 3 * ((k + 1 : Nat) : Int) = ((k0 : Int) + 3 * (k : Int)) + 1 + 1 + 1 := by omega
        obtain ⟨c0, f0'⟩ := ho.2 (k * 3) (by rw [half_length]; exact hl0)
        obtain ⟨c1, f1'⟩ := ho.2 (k * 3 + 1) (by rw [half_length]; exact hl1)
        obtain ⟨c2, f2'⟩ := ho.2 (k * 3 + 2) (by rw [half_length]; exact hl2)
        have m1 := ho.mark hl0
        have m2 := m1.mark hl1
        have m3 := m2.mark hl2
        rw [show ((k * 3 : Nat) : Int) = 3 * (k : Int) by omega] at m1 m2 m3
        rw [show ((k * 3 + 1 : Nat) : Int) = 3 * (k : Int) + 1 by omega, ← Int.add_assoc] at m2 m3
        rw [show ((k * 3 + 2 : Nat) : Int) = 3 * (k : Int) + 1 + 1 by omega, ← Int.add_assoc, ← Int.add_assoc] at m3
        have HS := Lib.hid m3
        clear m1 m2 m3 ho hl0 hl1 hl2
        generalize hq : (k0 : Int) + 3 * (k : Int) = Q at hQ0 hQ1 hQ HS ⊢
        generalize (half s k0 (k * 3)).getD (k * 3) 0 = x at c0
        generalize (half s k0 (k * 3)).getD (k * 3 + 1) 0 = y at c1
        generalize (half s k0 (k * 3)).getD (k * 3 + 2) 0 = z at c2
        have f1 : (wr.setCell ⟨B, k * 3, none⟩ (.float .f32 (floatOfInt .f32 Q))).frozen? ⟨B, k * 3 + 1, none⟩ = false := by rw [World.frozen?_setCell]; exact f1'
        have f2 : ((wr.setCell ⟨B, k * 3, none⟩ (.float .f32 (floatOfInt .f32 Q))).setCell ⟨B, k * 3 + 1, none⟩ (.float .f32 (floatOfInt .f32 (Q + 1)))).frozen? ⟨B, k * 3 + 2, none⟩ = false := by rw [World.frozen?_setCell, World.frozen?_setCell]; exact f2'
        have d1 : (wr.setCell ⟨B, k * 3, none⟩ (.float .f32 (floatOfInt .f32 Q))).cell? ⟨B, k * 3 + 1, none⟩ = some (.float .f32 y) := by rw [World.cell?_setCell_other (h := by intro hh; simp only [Addr.mk.injEq] at hh; omega)]; exact c1
        have d2 : ((wr.setCell ⟨B, k * 3, none⟩ (.float .f32 (floatOfInt .f32 Q))).setCell ⟨B, k * 3 + 1, none⟩ (.float .f32 (floatOfInt .f32 (Q + 1)))).cell? ⟨B, k * 3 + 2, none⟩ = some (.float .f32 z) := by rw [World.cell?_setCell_other (h := by intro hh; simp only [Addr.mk.injEq] at hh; omega), World.cell?_setCell_other (h := by intro hh; simp only [Addr.mk.injEq] at hh; omega)]; exact c2
        have hne : s ≠ [] := by intro h0; have := HS0.out; rw [h0] at this; simp at this; omega
        have HT2 : Hid (∀ a b c, Turn w (((wr.setCell ⟨B, k * 3, none⟩ a).setCell ⟨B, k * 3 + 1, none⟩ b).setCell ⟨B, k * 3 + 2, none⟩ c) (SB s B)) := Lib.hid (fun a b c => ((HT.out.trans ((Turn.set wr ⟨B, k * 3, none⟩ rfl _).mono (fun b hb => ⟨hne, hb⟩))).trans ((Turn.set _ ⟨B, k * 3 + 1, none⟩ rfl _).mono (fun b hb => ⟨hne, hb⟩))).trans ((Turn.set _ ⟨B, k * 3 + 2, none⟩ rfl _).mono (fun b hb => ⟨hne, hb⟩)))
        have e1 : IntKind.i64.wrap (Q + 1) = Q + 1 := IntWalk.i64_in _ (by omega)
        have e2 : IntKind.i64.wrap (Q + 1 + 1) = Q + 1 + 1 := IntWalk.i64_in _ (by omega)
        have e3 : IntKind.i64.wrap (Q + 1 + 1 + 1) = Q + 1 + 1 + 1 := IntWalk.i64_in _ (by omega)
        have HR : Hid (half s k0 ((k + 1) * 3) = half s k0 (k * 3 + 2 + 1)) := Lib.hid (by congr 1; omega)
        clear HT hq hne
        go_wp2
        go_roundw
        case rel => exact ⟨k + 1, by omega, by go_num, congrArg (Value.int IntKind.i64) (by omega), Lib.hid (.inr ⟨by first | rfl | trivial, by rw [HR.out]; exact HS.out⟩), Lib.hid (HT2.out _ _ _)⟩
        case measure => simp [intOf]; omega
    · have hkk : k = n := by omega
      subst hkk
      go_wp2
      go_ret
      refine ⟨rfl, ?_, HT.out⟩
      rcases HO.out with h0 | ⟨-, ho⟩
      · left
        have := congrArg List.length h0
        rw [half_length] at this
        exact List.eq_nil_of_length_eq_zero this
      · rw [← HS0.out, half_all] at ho; exact .inr ho
/-- a rotor of the call's own: four lists -/
def OwnT (w : World) (B0 : Nat) (A L D S : Option Addr) (b1 b2 b3 b4 : Nat) (a l d s : List Nat) : Prop := OwnQ w B0 A L D b1 b2 b3 a l d ∧ OwnO w B0 S b4 s ∧ b1 ≠ b4 ∧ b2 ≠ b4 ∧ b3 ≠ b4
def SRt (a l d s : List Nat) (b1 b2 b3 b4 : Nat) : Nat → Prop := fun b => SQ a l d b1 b2 b3 b ∨ SB s b4 b
theorem OwnT.rt {w : World} {B0 b1 b2 b3 b4 : Nat} {A L D S : Option Addr} {a l d s : List Nat} (h : OwnT w B0 A L D S b1 b2 b3 b4 a l d s) : Rt w A L D S a l d s := ⟨h.1.pf, h.2.1.fl⟩
theorem OwnT.below {w w' : World} {B0 b1 b2 b3 b4 : Nat} {A L D S : Option Addr} {a l d s : List Nat} (h : OwnT w B0 A L D S b1 b2 b3 b4 a l d s) (hb : Below w.heap.size w w') : OwnT w' B0 A L D S b1 b2 b3 b4 a l d s := ⟨h.1.below hb, h.2.1.below hb, h.2.2⟩
theorem OwnT.bd {w : World} {B0 b1 b2 b3 b4 : Nat} {A L D S : Option Addr} {a l d s : List Nat} (h : OwnT w B0 A L D S b1 b2 b3 b4 a l d s) {c : Nat} (hc : SRt a l d s b1 b2 b3 b4 c) : B0 ≤ c ∧ c < w.heap.size := by
  rcases hc with hc | hc
  · exact h.1.leS hc
  · exact h.2.1.bd hc
theorem OwnT.turnS {w w' : World} {S0 : Nat → Prop} {B0 b1 b2 b3 b4 : Nat} {A L D S : Option Addr} {a l d s : List Nat} (h : OwnT w B0 A L D S b1 b2 b3 b4 a l d s) (ht : Turn w w' S0) (hs : ∀ c, SRt a l d s b1 b2 b3 b4 c → ¬ S0 c) : OwnT w' B0 A L D S b1 b2 b3 b4 a l d s :=
  ⟨h.1.turnS ht (fun c hc => hs c (.inl hc)), h.2.1.turnS ht (fun c hc => hs c (.inr hc)), h.2.2⟩
theorem OwnR.t {w : World} {B b1 b2 b3 b4 : Nat} {a l d s : List Nat} (h : OwnR w B b1 b2 b3 b4 a l d s) : OwnT w B (some ⟨b1, 0, none⟩) (some ⟨b2, 0, none⟩) (some ⟨b3, 0, none⟩) (some ⟨b4, 0, none⟩) b1 b2 b3 b4 a l d s := by
  obtain ⟨⟨h1, h2, h3, h4⟩, h5, h6⟩ := h
  exact ⟨OwnP.q ⟨h1, h2, h3, h4⟩, h6.o (by omega), by omega, by omega, by omega⟩
theorem OwnT.setT {w : World} {B0 b1 b2 b3 b4 : Nat} {A L D S : Option Addr} {a l d s : List Nat} (h : OwnT w B0 A L D S b1 b2 b3 b4 a l d s) {p : Addr} (hp : p.block < B0) (v : Value) : OwnT (w.setCell p v) B0 A L D S b1 b2 b3 b4 a l d s := by
  have ho : ∀ {X : Option Addr} {b : Nat} {xs : List Nat}, OwnO w B0 X b xs → OwnO (w.setCell p v) B0 X b xs := by
    intro X b xs h
    rcases h with h | ⟨h1, h2, h3⟩
    · exact .inl h
    · exact .inr ⟨h1, h2, h3.setCell (by omega) v⟩
  exact ⟨⟨ho h.1.1, ho h.1.2.1, ho h.1.2.2.1, h.1.2.2.2⟩, ho h.2.1, h.2.2⟩
theorem OwnT.baseT {w : World} {B B0 b1 b2 b3 b4 : Nat} {A L D S : Option Addr} {a l d s : List Nat} (h : OwnT w B0 A L D S b1 b2 b3 b4 a l d s) (hB : B ≤ B0) : OwnT w B A L D S b1 b2 b3 b4 a l d s := by
  have ho : ∀ {X : Option Addr} {b : Nat} {xs : List Nat}, OwnO w B0 X b xs → OwnO w B X b xs := by
    intro X b xs h
    rcases h with h | ⟨h1, h2, h3⟩
    · exact .inl h
    · exact .inr ⟨h1, Nat.le_trans hB h2, h3⟩
  exact ⟨⟨ho h.1.1, ho h.1.2.1, ho h.1.2.2.1, h.1.2.2.2⟩, ho h.2.1, h.2.2⟩
theorem OwnT.none (w : World) (B0 : Nat) : OwnT w B0 .none .none .none .none 0 1 2 3 [] [] [] [] := ⟨⟨.inl rfl, .inl rfl, .inl rfl, by decide, by decide, by decide⟩, .inl rfl, by decide, by decide, by decide⟩
set_option maxHeartbeats 4000000 in
theorem l_markRotor (A L D S : Option Addr) (b1 b2 b3 b4 B0 ca cl cd n cs k0 : Nat) (c : Int) (hub tip : Nat) (a l d s : List Nat) (w : World) (h : OwnT w B0 A L D S b1 b2 b3 b4 a l d s) (hn : FewR a l d s n) (hk0 : k0 ≤ 1048576) (K : Int) (hK : K = (k0 : Int)) :
    Calls Tryz.prog 17 #[.agg #[.slice A a.length ca, .slice L l.length cl, .slice D d.length cd, .slice S n cs, .int .i64 c, .float .f32 hub, .float .f32 tip], .int .i64 K] w fun e w' => e = .returned (.int .i64 ((k0 : Int) + (a.length : Int) + (l.length : Int) + (d.length : Int) + 3 * (n : Int))) ∧
      OwnT w' B0 A L D S b1 b2 b3 b4 (marks k0 a.length) (marks (k0 + a.length) l.length) (marks (k0 + a.length + l.length) d.length) (marks (k0 + a.length + l.length + d.length) s.length) ∧ Turn w w' (SRt a l d s b1 b2 b3 b4) := by
  obtain ⟨h1, h2, n1, n2, n3⟩ := h
  have hsl := hn.1
  have hbd := hn.2
  have HN := Lib.hid hn.few
  have HSL := Lib.hid hsl
  have HB : ∀ o1, Hid (Below w.heap.size w (w.alloc o1)) := fun _ => Lib.hid ((Below.refl _ _).alloc (Nat.le_refl _) _)
  have H1 := Lib.hid h1
  have H2 := Lib.hid h2
  clear h1 h2 hn hsl
  subst hK
  have hq1 : (0 : Int) ≤ (k0 : Int) + (a.length : Int) + (l.length : Int) + (d.length : Int) := by omega
  go_enter Tryz.func17, Tryz.ntmps17
  go_wp2_with fail
  refine (l_markProfile A L D b1 b2 b3 B0 ca cl cd k0 a l d _ (H1.out.below (HB _).out) HN.out hk0 _ rfl).mono ?_
  rintro e w1 ⟨rfl, m1, t1⟩
  have K0 := blkL_at w #[.slice A a.length ca, .slice L l.length cl, .slice D d.length cd, .slice S n cs, .int .i64 c, .float .f32 hub, .float .f32 tip] 35 rfl
  have K1 : Hid (BlkL w1 w.heap.size [_, _, _, _, _, _, _]) := Lib.hid (BlkL.turnS K0 t1 (fun hh => by have := (H1.out.leS hh).2; omega))
  have T1 : Hid (Turn w w1 (SRt a l d s b1 b2 b3 b4)) := Lib.hid ((Turn.of_below (HB _).out _).trans (t1.mono (fun b hb => .inl hb)))
  have O2 : Hid (OwnO w1 B0 S b4 s) := Lib.hid ((H2.out.below (HB _).out).turn t1 (fun hh => by
    rcases hh with hh | hh | hh
    · exact n1 hh.2.symm
    · exact n2 hh.2.symm
    · exact n3 hh.2.symm))
  have O1 := Lib.hid m1
  clear t1 m1 K0
  have k3 := (K1.out.2 3 _ rfl).1
  go_wp2_with fail
  refine (l_markStationS S b4 cs (k0 + a.length + l.length + d.length) n s _ O2.out.a HSL.out (by omega) (by omega) _ (by omega)).mono ?_
  rintro e w2 ⟨rfl, m2, t2⟩
  have T2 : Hid (Turn w w2 (SRt a l d s b1 b2 b3 b4)) := Lib.hid (T1.out.trans (t2.mono (fun b hb => .inr hb)))
  have P1 := Lib.hid (O1.out.turn t2 (SB.ne n1) (SB.ne n2) (SB.ne n3))
  have P2 : Hid (OwnO w2 B0 S b4 (marks (k0 + a.length + l.length + d.length) s.length)) := Lib.hid (O2.out.mk' (marks_length _ _) m2)
  clear t2 m2 k3
  go_wp2
  go_ret
  exact ⟨by first | rfl | (congr 2; omega), ⟨P1.out, P2.out, n1, n2, n3⟩, T2.out⟩
end Go.Proofs.YtahbcpjipomcgaaGreat
