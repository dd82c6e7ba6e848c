/- How the laws mark a list of cycles. No statement is proved here. -/
import Derived.Test.YtpchkedgjikpfabCycM
namespace Go.Proofs.Ytpchkedgjikpfab
open Go Go.RowKit
/-- a block of the call's own that holds n cycles of any values -/
def TyC (w : World) (B n : Nat) : Prop :=
  B < w.heap.size ∧ ∀ j, j < n → (∃ x, w.cell? ⟨B, j * 3, none⟩ = some (.float .f32 x)) ∧ (∃ x, w.cell? ⟨B, j * 3 + 1, none⟩ = some (.float .f32 x)) ∧ (∃ x, w.cell? ⟨B, j * 3 + 2, none⟩ = some (.bool x)) ∧ ∀ i, i < 3 → w.frozen? ⟨B, j * 3 + i, none⟩ = false
theorem OwnC.ty {w : World} {B : Nat} {xs : List (Nat × Nat × Bool)} (h : OwnC w B xs) : TyC w B xs.length :=
  ⟨h.1, fun j hj => ⟨⟨_, (h.2 j hj).1.1⟩, ⟨_, (h.2 j hj).1.2.1⟩, ⟨_, (h.2 j hj).1.2.2⟩, (h.2 j hj).2⟩⟩
theorem set_float {w : World} {p q : Addr} {x v : Nat} (h : w.cell? p = some (.float .f32 x)) (hq : ∃ y, w.cell? q = some (.float .f32 y)) : ∃ y, (w.setCell p (.float .f32 v)).cell? q = some (.float .f32 y) := by
  by_cases e : q = p
  · subst e; exact ⟨v, by rw [World.cell?_setCell_same (h := h)]⟩
  · obtain ⟨y, hy⟩ := hq
    exact ⟨y, by rw [World.cell?_setCell_other (h := fun h => e h.symm)]; exact hy⟩
theorem TyC.set0 {w : World} {B n k : Nat} (h : TyC w B n) (hk : k < n) (v : Nat) : TyC (w.setCell ⟨B, k * 3, none⟩ (.float .f32 v)) B n := by
  obtain ⟨⟨x, hx⟩, -⟩ := h.2 k hk
  refine ⟨by simpa [World.setCell] using h.1, fun j hj => ?_⟩
  obtain ⟨h1, h2, ⟨z, h3⟩, h4⟩ := h.2 j hj
  exact ⟨set_float hx h1, set_float hx h2, ⟨z, by rw [World.cell?_setCell_other (h := by intro hh; simp only [Addr.mk.injEq] at hh; omega)]; exact h3⟩, fun i hi => by rw [World.frozen?_setCell]; exact h4 i hi⟩
theorem TyC.set1 {w : World} {B n k : Nat} (h : TyC w B n) (hk : k < n) (v : Nat) : TyC (w.setCell ⟨B, k * 3 + 1, none⟩ (.float .f32 v)) B n := by
  obtain ⟨-, ⟨x, hx⟩, -⟩ := h.2 k hk
  refine ⟨by simpa [World.setCell] using h.1, fun j hj => ?_⟩
  obtain ⟨h1, h2, ⟨z, h3⟩, h4⟩ := h.2 j hj
  exact ⟨set_float hx h1, set_float hx h2, ⟨z, by rw [World.cell?_setCell_other (h := by intro hh; simp only [Addr.mk.injEq] at hh; omega)]; exact h3⟩, fun i hi => by rw [World.frozen?_setCell]; exact h4 i hi⟩
theorem TyC.set2 {w : World} {B n k : Nat} (h : TyC w B n) (hk : k < n) (v : Bool) : TyC (w.setCell ⟨B, k * 3 + 2, none⟩ (.bool v)) B n := by
  obtain ⟨-, -, ⟨x, hx⟩, -⟩ := h.2 k hk
  refine ⟨by simpa [World.setCell] using h.1, fun j hj => ?_⟩
  obtain ⟨⟨a, h1⟩, ⟨b, h2⟩, ⟨z, h3⟩, h4⟩ := h.2 j hj
  refine ⟨⟨a, by rw [World.cell?_setCell_other (h := by intro hh; simp only [Addr.mk.injEq] at hh; omega)]; exact h1⟩, ⟨b, by rw [World.cell?_setCell_other (h := by intro hh; simp only [Addr.mk.injEq] at hh; omega)]; exact h2⟩, ?_, fun i hi => by rw [World.frozen?_setCell]; exact h4 i hi⟩
  by_cases e : j = k
  · subst e; exact ⟨v, by rw [World.cell?_setCell_same (h := hx)]⟩
  · exact ⟨z, by rw [World.cell?_setCell_other (h := by intro hh; simp only [Addr.mk.injEq] at hh; omega)]; exact h3⟩
set_option maxHeartbeats 4000000 in
theorem l_markCycleS (A : Option Addr) (B cap k0 : Nat) (xs : List (Nat × Nat × Bool)) (w : World) (h : OwnAC w A B xs) (hn : xs.length ≤ 1048576) (hk0 : k0 ≤ 4194304) (K : Int) (hK : K = (k0 : Int)) :
    Calls Try.prog 24 #[.slice A xs.length cap, .int .i64 K] w fun e w' => e = .returned (.int .i64 ((k0 : Int) + 3 * (xs.length : Int))) ∧ True ∧ Turn w w' (SBC xs B) := by
  subst hK
  have H : Hid (xs = [] ∨ (A = some ⟨B, 0, none⟩ ∧ TyC w B xs.length)) := Lib.hid (by rcases h with h | ⟨h1, h2⟩; exact .inl h; exact .inr ⟨h1, h2.ty⟩)
  clear h
  go_enter Try.func24, Try.ntmps24
  go_wp2
  go_loopw [1, 5] (fun q i wr => ∃ k : Nat, k ≤ xs.length ∧ i = .int .i64 k ∧ q = .int .i64 ((k0 : Int) + 3 * (k : Int)) ∧ Hid (xs = [] ∨ (A = some ⟨B, 0, none⟩ ∧ TyC wr B xs.length)) ∧ Hid (Turn w wr (SBC xs B))) (fun _ i _ => xs.length - (intOf i).toNat)
  case atStart => exact ⟨0, Nat.zero_le _, rfl, by simp, H, Lib.hid (Turn.refl _ _)⟩
  case round =>
    obtain ⟨k, hk, rfl, rfl, HO, HT⟩ := hrel
    by_cases hlt : k < xs.length
    · rcases HO.out with h0 | ⟨rfl, ho⟩
      · rw [h0] at hlt; cases hlt
      · clear HO H
        have hQ0 : (0 : Int) ≤ (k0 : Int) + 3 * (k : Int) := by omega
        have hQ1 : (k0 : Int) + 3 * (k : Int) ≤ 7340032 := by omega
        have hQ : (k0 : Int) + 3 * ((k + 1 : Nat) : Int) = ((k0 : Int) + 3 * (k : Int)) + 1 + 1 + 1 := by omega
        generalize hq : (k0 : Int) + 3 * (k : Int) = Q at hQ0 hQ1 hQ ⊢
        obtain ⟨⟨x, c0⟩, ⟨y, c1⟩, ⟨z, c2⟩, f⟩ := ho.2 k hlt
        have f0 : wr.frozen? ⟨B, k * 3, none⟩ = false := f 0 (by omega)
        have f1 : (wr.setCell ⟨B, k * 3, none⟩ (.float .f32 (floatOfInt .f32 Q))).frozen? ⟨B, k * 3 + 1, none⟩ = false := by rw [World.frozen?_setCell]; exact f 1 (by omega)
        have f2 : ((wr.setCell ⟨B, k * 3, none⟩ (.float .f32 (floatOfInt .f32 Q))).setCell ⟨B, k * 3 + 1, none⟩ (.float .f32 (floatOfInt .f32 (Q + 1)))).frozen? ⟨B, k * 3 + 2, none⟩ = false := by rw [World.frozen?_setCell, World.frozen?_setCell]; exact f 2 (by omega)
        have d1 : (wr.setCell ⟨B, k * 3, none⟩ (.float .f32 (floatOfInt .f32 Q))).cell? ⟨B, k * 3 + 1, none⟩ = some (.float .f32 y) := by rw [World.cell?_setCell_other (h := by intro hh; simp only [Addr.mk.injEq] at hh; omega)]; exact c1
        have d2 : ((wr.setCell ⟨B, k * 3, none⟩ (.float .f32 (floatOfInt .f32 Q))).setCell ⟨B, k * 3 + 1, none⟩ (.float .f32 (floatOfInt .f32 (Q + 1)))).cell? ⟨B, k * 3 + 2, none⟩ = some (.bool z) := by rw [World.cell?_setCell_other (h := by intro hh; simp only [Addr.mk.injEq] at hh; omega), World.cell?_setCell_other (h := by intro hh; simp only [Addr.mk.injEq] at hh; omega)]; exact c2
        have hne : xs ≠ [] := by intro h0; rw [h0] at hlt; cases hlt
        have HS : Hid (∀ a b c, TyC (((wr.setCell ⟨B, k * 3, none⟩ (.float .f32 a)).setCell ⟨B, k * 3 + 1, none⟩ (.float .f32 b)).setCell ⟨B, k * 3 + 2, none⟩ (.bool c)) B xs.length) := Lib.hid (fun a b c => ((ho.set0 hlt a).set1 hlt b).set2 hlt c)
        have HT2 : Hid (∀ a b c, Turn w (((wr.setCell ⟨B, k * 3, none⟩ a).setCell ⟨B, k * 3 + 1, none⟩ b).setCell ⟨B, k * 3 + 2, none⟩ c) (SBC xs B)) := Lib.hid (fun a b c => ((HT.out.trans ((Turn.set wr ⟨B, k * 3, none⟩ rfl _).mono (fun b hb => ⟨hne, hb⟩))).trans ((Turn.set _ ⟨B, k * 3 + 1, none⟩ rfl _).mono (fun b hb => ⟨hne, hb⟩))).trans ((Turn.set _ ⟨B, k * 3 + 2, none⟩ rfl _).mono (fun b hb => ⟨hne, hb⟩)))
        have e1 : IntKind.i64.wrap (Q + 1) = Q + 1 := IntWalk.i64_in _ (by omega)
        have e2 : IntKind.i64.wrap (Q + 1 + 1) = Q + 1 + 1 := IntWalk.i64_in _ (by omega)
        have e3 : IntKind.i64.wrap (Q + 1 + 1 + 1) = Q + 1 + 1 + 1 := IntWalk.i64_in _ (by omega)
        clear ho HT f
        go_wp2
        go_roundw
        case rel => exact ⟨k + 1, by omega, by go_num, congrArg (Value.int IntKind.i64) (by omega), Lib.hid (.inr ⟨by first | rfl | trivial, HS.out _ _ _⟩), Lib.hid (HT2.out _ _ _)⟩
        case measure => simp [intOf]; omega
    · have hkk : k = xs.length := by omega
      subst hkk
      go_wp2
      go_ret
      exact ⟨rfl, trivial, HT.out⟩
end Go.Proofs.Ytpchkedgjikpfab
