/- Lists of int64: what holds them, and how the laws mark them. No statement is proved here. -/
import Derived.Test.YtpmjikchlofebaaMarkR
namespace Go.Proofs.Ytpmjikchlofebaa
open Go Go.RowKit
/-- a slice that reads as these 32-bit numbers -/
def FlI (w : World) (A : Option Addr) (xs : List Int) : Prop :=
  xs = [] ∨ ∃ b off, A = some ⟨b, off, none⟩ ∧ b < w.heap.size ∧ ∀ k, k < xs.length → w.cell? ⟨b, off + k, none⟩ = some (.int .i64 (xs.getD k 0))

theorem FlI.below {w w' : World} {A : Option Addr} {xs : List Int} (h : FlI w A xs) (hb : Below w.heap.size w w') : FlI w' A xs := by
  rcases h with h | ⟨b, off, e, hlt, hc⟩
  · exact .inl h
  · exact .inr ⟨b, off, e, Nat.lt_of_lt_of_le hlt hb.size, fun k hk => by rw [hb.cell (p := ⟨b, off + k, none⟩) hlt]; exact hc k hk⟩
theorem FlI.draws {w : World} {A : Option Addr} {xs : List Int} (h : FlI w A xs) (n : Nat) : FlI (w.drewN n) A xs := h
theorem FlI.at_ {w : World} {A : Option Addr} {xs : List Int} (h : FlI w A xs) {k : Nat} (hk : k < xs.length) :
    ∃ b off, A = some ⟨b, off, none⟩ ∧ b < w.heap.size ∧ w.cell? ⟨b, off + k, none⟩ = some (.int .i64 (xs.getD k 0)) := by
  rcases h with h | ⟨b, off, e, hlt, hc⟩
  · subst h; simp at hk
  · exact ⟨b, off, e, hlt, hc k hk⟩

/-- a new block of n numbers, of which k are written -/
def FlNewI (w wr : World) (B n k : Nat) (xs : List Int) : Prop :=
  Below w.heap.size w wr ∧ w.heap.size ≤ B ∧ B < wr.heap.size ∧
  ∀ j, j < n → wr.cell? ⟨B, j, none⟩ = some (.int .i64 (if j < k then xs.getD j 0 else 0)) ∧ wr.frozen? ⟨B, j, none⟩ = false

theorem FlNewI.start (w : World) (n : Nat) (E : TypeId) (xs : List Int) : FlNewI w (w.alloc (.cells (madeCells #[.int .i64 0] n) E)) w.heap.size n 0 xs := by
  refine ⟨(Below.refl _ _).alloc (Nat.le_refl _) _, Nat.le_refl _, by simp, fun j hj => ⟨?_, ?_⟩⟩
  · rw [World.cell?_alloc_at (w := w) (hn := rfl)]
    rw [if_neg (Nat.not_lt_zero j)]
    simp [madeCells, hj, Nat.mod_one]
  · rw [World.frozen?_alloc_at (w := w) (hn := rfl)]

theorem FlNewI.step {w wr : World} {B n k : Nat} {xs : List Int} (h : FlNewI w wr B n k xs) (_hk : k < n) : FlNewI w (wr.setCell ⟨B, k, none⟩ (.int .i64 (xs.getD k 0))) B n (k + 1) xs := by
  obtain ⟨h1, h2, h3, h4⟩ := h
  refine ⟨h1.setCell h2 _, h2, by simpa [World.setCell] using h3, fun j hj => ⟨?_, ?_⟩⟩
  · by_cases e : j = k
    · subst e
      rw [World.cell?_setCell_same (h := (h4 j hj).1), if_pos (by omega)]
    · rw [World.cell?_setCell_other (h := by intro hh; simp only [Addr.mk.injEq] at hh; omega), (h4 j hj).1]
      by_cases hj2 : j < k
      · rw [if_pos hj2, if_pos (by omega)]
      · rw [if_neg hj2, if_neg (by omega)]
  · rw [World.frozen?_setCell]; exact (h4 j hj).2

theorem FlNewI.done {w wr : World} {B k : Nat} {xs : List Int} (h : FlNewI w wr B xs.length k xs) (hk : xs.length ≤ k) : FlI wr (some ⟨B, 0, none⟩) xs := by
  obtain ⟨h1, h2, h3, h4⟩ := h
  exact .inr ⟨B, 0, rfl, h3, fun j hj => by rw [Nat.zero_add, (h4 j hj).1, if_pos (by omega)]⟩
def OwnI (w : World) (B : Nat) (xs : List Int) : Prop :=
  B < w.heap.size ∧ ∀ j, j < xs.length → w.cell? ⟨B, j, none⟩ = some (.int .i64 (xs.getD j 0)) ∧ w.frozen? ⟨B, j, none⟩ = false
theorem OwnI.of_new {w wr : World} {B k : Nat} {xs : List Int} (h : FlNewI w wr B xs.length k xs) (hk : xs.length ≤ k) : OwnI wr B xs := by
  obtain ⟨h1, h2, h3, h4⟩ := h
  exact ⟨h3, fun j hj => ⟨by rw [(h4 j hj).1, if_pos (by omega)], (h4 j hj).2⟩⟩
theorem OwnI.fl {w : World} {B : Nat} {xs : List Int} (h : OwnI w B xs) : FlI w (some ⟨B, 0, none⟩) xs :=
  .inr ⟨B, 0, rfl, h.1, fun k hk => by rw [Nat.zero_add]; exact (h.2 k hk).1⟩
theorem OwnI.below {w w' : World} {B : Nat} {xs : List Int} (h : OwnI w B xs) (hb : Below w.heap.size w w') : OwnI w' B xs :=
  ⟨Nat.lt_of_lt_of_le h.1 hb.size, fun j hj => ⟨by rw [hb.cell (p := ⟨B, j, none⟩) h.1]; exact (h.2 j hj).1, by rw [hb.frozen (p := ⟨B, j, none⟩) h.1]; exact (h.2 j hj).2⟩⟩
theorem OwnI.setCell {w : World} {B : Nat} {xs : List Int} (h : OwnI w B xs) {p : Addr} (hp : p.block ≠ B) (v : Value) : OwnI (w.setCell p v) B xs :=
  ⟨by simpa [World.setCell] using h.1, fun j hj => ⟨by rw [World.cell?_setCell_other (h := by intro hh; exact hp (by rw [hh]))]; exact (h.2 j hj).1, by rw [World.frozen?_setCell]; exact (h.2 j hj).2⟩⟩
def marksI (k n : Nat) : List Int := (List.range n).map fun (j : Nat) => ((k : Int) + (j : Int))
theorem marks_lengthI (k n : Nat) : (marksI k n).length = n := by simp [marksI]
theorem marks_atI {k n j : Nat} (h : j < n) : (marksI k n).getD j 0 = ((k : Int) + (j : Int)) := by simp [marksI, List.getD, h]
theorem OwnI.turn {w w' : World} {S : Nat → Prop} {b : Nat} {xs : List Int} (h : OwnI w b xs) (ht : Turn w w' S) (hs : ¬ S b) : OwnI w' b xs :=
  ⟨Nat.lt_of_lt_of_le h.1 ht.1, fun j hj => ⟨by rw [ht.2.1 ⟨b, j, none⟩ h.1 hs]; exact (h.2 j hj).1, by rw [ht.2.2.1 ⟨b, j, none⟩ h.1]; exact (h.2 j hj).2⟩⟩
def OwnOI (w : World) (B0 : Nat) (A : Option Addr) (b : Nat) (xs : List Int) : Prop := xs = [] ∨ (A = some ⟨b, 0, none⟩ ∧ B0 ≤ b ∧ OwnI w b xs)
theorem OwnOI.a {w : World} {B0 b : Nat} {A : Option Addr} {xs : List Int} (h : OwnOI w B0 A b xs) : xs = [] ∨ (A = some ⟨b, 0, none⟩ ∧ OwnI w b xs) := by
  rcases h with h | ⟨h1, -, h2⟩
  · exact .inl h
  · exact .inr ⟨h1, h2⟩
theorem OwnOI.fl {w : World} {B0 b : Nat} {A : Option Addr} {xs : List Int} (h : OwnOI w B0 A b xs) : FlI w A xs := by
  rcases h with h | ⟨rfl, -, h⟩
  · exact .inl h
  · exact h.fl
theorem OwnOI.below {w w' : World} {B0 b : Nat} {A : Option Addr} {xs : List Int} (h : OwnOI w B0 A b xs) (hb : Below w.heap.size w w') : OwnOI w' B0 A b xs := by
  rcases h with h | ⟨h1, h2, h3⟩
  · exact .inl h
  · exact .inr ⟨h1, h2, h3.below hb⟩
theorem OwnOI.turn {w w' : World} {S : Nat → Prop} {B0 b : Nat} {A : Option Addr} {xs : List Int} (h : OwnOI w B0 A b xs) (ht : Turn w w' S) (hs : ¬ S b) : OwnOI w' B0 A b xs := by
  rcases h with h | ⟨h1, h2, h3⟩
  · exact .inl h
  · exact .inr ⟨h1, h2, h3.turn ht hs⟩
/-- as OwnOI, for a walk -/
def OwnAI (w : World) (A : Option Addr) (b : Nat) (xs : List Int) : Prop := xs = [] ∨ (A = some ⟨b, 0, none⟩ ∧ OwnI w b xs)
/-- the block of a list, if it has any number -/
def SBI (xs : List Int) (B : Nat) : Nat → Prop := fun b => xs ≠ [] ∧ b = B
theorem OwnOI.notS {w : World} {B0 b : Nat} {A : Option Addr} {xs : List Int} (h : OwnOI w B0 A b xs) {c : Nat} (hc : w.heap.size ≤ c) : ¬ SBI xs b c := by
  rintro ⟨h0, rfl⟩
  rcases h with h | ⟨-, -, h⟩
  · exact h0 h
  · have := h.1; omega
theorem OwnOI.leS {w : World} {B0 b : Nat} {A : Option Addr} {xs : List Int} (h : OwnOI w B0 A b xs) {c : Nat} (hc : SBI xs b c) : B0 ≤ c := by
  obtain ⟨h0, rfl⟩ := hc
  rcases h with h | ⟨-, h, -⟩
  · exact absurd h h0
  · exact h
theorem OwnOI.lt {w : World} {B0 b : Nat} {A : Option Addr} {xs : List Int} (h : OwnOI w B0 A b xs) (hx : xs ≠ []) : B0 ≤ b ∧ b < w.heap.size := by
  rcases h with h | ⟨-, h1, h2⟩
  · exact absurd h hx
  · exact ⟨h1, h2.1⟩
theorem SBI.ne {xs : List Int} {b c : Nat} (h : c ≠ b) : ¬ SBI xs b c := fun hh => h hh.2
def halfI (xs : List Int) (k0 k : Nat) : List Int := (List.range xs.length).map fun j => if j < k then ((k0 : Int) + (j : Int)) else xs.getD j 0
theorem half_lengthI (xs : List Int) (k0 k : Nat) : (halfI xs k0 k).length = xs.length := by simp [halfI]
theorem half_atI {xs : List Int} {k0 k j : Nat} (h : j < xs.length) : (halfI xs k0 k).getD j 0 = if j < k then ((k0 : Int) + (j : Int)) else xs.getD j 0 := by simp [halfI, List.getD, h]
theorem half_zeroI (xs : List Int) (k0 : Nat) : halfI xs k0 0 = xs := by
  apply List.ext_getElem
  · simp [halfI]
  · intro j h1 h2; simp [halfI, List.getD, h2]
theorem half_allI (xs : List Int) (k0 : Nat) : halfI xs k0 xs.length = marksI k0 xs.length := by
  apply List.ext_getElem
  · simp [halfI, marksI]
  · intro j h1 h2
    simp [halfI] at h1
    simp [halfI, marksI, h1]
theorem OwnI.mark {w : World} {B : Nat} {xs : List Int} {k0 k : Nat} (h : OwnI w B (halfI xs k0 k)) (hk : k < xs.length) : OwnI (w.setCell ⟨B, k, none⟩ (.int .i64 (((k0 : Int) + (k : Int))))) B (halfI xs k0 (k + 1)) := by
  refine ⟨by simpa [World.setCell] using h.1, fun j hj => ⟨?_, ?_⟩⟩
  · rw [half_lengthI] at hj
    rw [half_atI hj]
    obtain ⟨h1, -⟩ := h.2 j (by rw [half_lengthI]; exact hj)
    by_cases e : j = k
    · subst e
      rw [World.cell?_setCell_same (h := h1), if_pos (by omega)]
    · rw [World.cell?_setCell_other (h := by intro hh; simp only [Addr.mk.injEq] at hh; omega), h1, half_atI hj]
      by_cases hj2 : j < k
      · rw [if_pos hj2, if_pos (by omega)]
      · rw [if_neg hj2, if_neg (by omega)]
  · rw [half_lengthI] at hj
    rw [World.frozen?_setCell]; exact (h.2 j (by rw [half_lengthI]; exact hj)).2
set_option maxHeartbeats 2000000 in
theorem l_markI64 (A : Option Addr) (B cap k0 : Nat) (xs : List Int) (w : World) (h : OwnAI w A B xs) (hn : xs.length ≤ 1048576) (hk0 : k0 ≤ 4194304) (K : Int) (hK : K = (k0 : Int)) :
    Calls Try.prog 40 #[.slice A xs.length cap, .int .i64 K] w fun e w' => e = .returned (.int .i64 ((k0 : Int) + (xs.length : Int))) ∧ (xs = [] ∨ OwnI w' B (marksI k0 xs.length)) ∧ Turn w w' (SBI xs B) := by
  subst hK
  have H := Lib.hid h; clear h
  go_enter Try.func40, Try.ntmps40
  go_wp2
  go_loopw [1, 5] (fun q i wr => ∃ k : Nat, k ≤ xs.length ∧ i = .int .i64 k ∧ q = .int .i64 ((k0 : Int) + (k : Int)) ∧ Hid (OwnAI wr A B (halfI xs k0 k)) ∧ Hid (Turn w wr (SBI xs B))) (fun _ i _ => xs.length - (intOf i).toNat)
  case atStart => exact ⟨0, Nat.zero_le _, rfl, by simp, Lib.hid (by rw [half_zeroI]; exact H.out), Lib.hid (Turn.refl _ _)⟩
  case round =>
    obtain ⟨k, hk, rfl, rfl, HO, HT⟩ := hrel
    by_cases hlt : k < xs.length
    · rcases HO.out with h0 | ⟨rfl, ho⟩
      · have := congrArg List.length h0
        rw [half_lengthI] at this
        rw [this] at hlt; cases hlt
      · obtain ⟨hc, hf⟩ := ho.2 k (by rw [half_lengthI]; exact hlt)
        have HS : Hid (OwnAI (wr.setCell ⟨B, k, none⟩ (.int .i64 (((k0 : Int) + (k : Int))))) (some ⟨B, 0, none⟩) B (halfI xs k0 (k + 1))) := Lib.hid (.inr ⟨rfl, ho.mark hlt⟩)
        have HT2 : Hid (Turn w (wr.setCell ⟨B, k, none⟩ (.int .i64 (((k0 : Int) + (k : Int))))) (SBI xs B)) := Lib.hid (HT.out.trans ((Turn.set wr ⟨B, k, none⟩ rfl _).mono (fun b hb => ⟨(by intro h0; rw [h0] at hlt; cases hlt), hb⟩)))
        clear ho HO H HT
        go_wp2
        go_roundw
        case rel => exact ⟨k + 1, by omega, by go_num, congrArg (Value.int IntKind.i64) (by omega), HS, HT2⟩
        case measure => simp [intOf]; omega
    · have hkk : k = xs.length := by omega
      subst hkk
      go_wp2
      go_ret
      refine ⟨rfl, ?_, HT.out⟩
      rcases HO.out with h0 | ⟨-, ho⟩
      · left
        have := congrArg List.length h0
        rw [half_lengthI] at this
        exact List.eq_nil_of_length_eq_zero this
      · rw [half_allI] at ho; exact .inr ho
set_option maxHeartbeats 2000000 in
theorem l_heldI64 (A : Option Addr) (B cap k0 n : Nat) (w : World) (h : OwnAI w A B (marksI k0 n)) (hn : n ≤ 1048576) (hk0 : k0 ≤ 4194304) (K : Int) (hK : K = (k0 : Int)) :
    Calls Try.prog 42 #[.slice A n cap, .int .i64 K] w fun e w' => ∃ m, e = .returned (.int .i64 ((k0 : Int) + (n : Int))) ∧ w' = w.drewN m := by
  subst hK
  have H := Lib.hid h; clear h
  go_enter Try.func42, Try.ntmps42
  go_wp2
  go_loopw [1, 5] (fun q i wr => ∃ k m : Nat, k ≤ n ∧ i = .int .i64 k ∧ q = .int .i64 ((k0 : Int) + (k : Int)) ∧ wr = w.drewN m) (fun _ i _ => n - (intOf i).toNat)
  case atStart => exact ⟨0, 0, Nat.zero_le _, rfl, by simp, rfl⟩
  case round =>
    obtain ⟨k, m, hk, rfl, rfl, rfl⟩ := hrel
    by_cases hlt : k < n
    · rcases H.out with h0 | ⟨rfl, ho⟩
      · have := congrArg List.length h0
        rw [marks_lengthI] at this
        rw [this] at hlt; cases hlt
      · obtain ⟨hc, -⟩ := ho.2 k (by rw [marks_lengthI]; exact hlt)
        rw [marks_atI hlt] at hc
        clear ho H
        go_wp2
        go_roundw
        case rel => exact ⟨k + 1, _, by omega, by go_num, congrArg (Value.int IntKind.i64) (by omega), by first | rfl | (simp only [World.drewN_drewN]; rfl)⟩
        case measure => simp [intOf]; omega
    · have hkk : k = n := by omega
      subst hkk
      go_wp2
      go_ret
      exact ⟨_, rfl, rfl⟩
theorem OwnOI.turnS {w w' : World} {S : Nat → Prop} {B0 b : Nat} {A : Option Addr} {xs : List Int} (h : OwnOI w B0 A b xs) (ht : Turn w w' S) (hs : ∀ c, SBI xs b c → ¬ S c) : OwnOI w' B0 A b xs := by
  by_cases hx : xs = []
  · exact .inl hx
  · exact h.turn ht (hs _ ⟨hx, rfl⟩)
theorem OwnOI.bd {w : World} {B0 b : Nat} {A : Option Addr} {xs : List Int} (h : OwnOI w B0 A b xs) {c : Nat} (hc : SBI xs b c) : B0 ≤ c ∧ c < w.heap.size := by
  obtain ⟨h0, rfl⟩ := hc
  exact h.lt h0

theorem make_i64 (n : Nat) (w : World) (h : n ≤ 1048576) : (Instr.makeSlice 60 (.int .i64 n) (.int .i64 n)).run Try.prog w = .ok (.slice (some ⟨w.heap.size, 0, none⟩) n n) (w.alloc (.cells (madeCells #[.int .i64 0] n) 2)) := by
  have hinfo : (Try.prog.info? 2).map (fun i => (i.zero, i.size, i.bytes)) = some (some (.int .i64 0), 1, 8) := by kernel_rfl
  obtain ⟨i0, hi, hz, hs, hb⟩ := info_parts hinfo
  have := run_make (P := Try.prog) w 60 2 i0 (.int .i64 0) (by kernel_rfl) hi hz .i64 .i64 n n (by omega) (by omega) (by rw [hb]; omega) (by omega)
  rw [this, hs]
  simp [Value.cells]
theorem l_toI64N (A : Option Addr) (cap : Nat) (xs : List Int) (w : World) (h : FlI w A xs) (hn : xs.length ≤ 1048576) :
    Calls Try.prog 50 #[.slice A xs.length cap] w fun e w' => e = .returned (.slice (some ⟨w.heap.size, 0, none⟩) xs.length xs.length) ∧ OwnI w' w.heap.size xs ∧ Below w.heap.size w w' := by
  have hmk := make_i64 xs.length w hn
  go_enter Try.func50, Try.ntmps50
  go_wp2
  go_loopw [4] (fun i wr => ∃ k : Nat, k ≤ xs.length ∧ i = .int .i64 k ∧ FlNewI w wr w.heap.size xs.length k xs) (fun i _ => xs.length - (intOf i).toNat)
  case atStart => exact ⟨0, Nat.zero_le _, rfl, FlNewI.start ..⟩
  case round =>
    obtain ⟨k, hk, rfl, hnew⟩ := hrel
    clear hmk
    by_cases hlt : k < xs.length
    · obtain ⟨b, off, rfl, hb, hc⟩ := h.at_ hlt
      have hc1 := hnew.1.cell (p := ⟨b, off + k, none⟩) hb
      rw [hc] at hc1
      obtain ⟨hc2, hc3⟩ := hnew.2.2.2 k hlt
      rw [if_neg (by omega)] at hc2
      have hst := hnew.step hlt
      generalize xs.getD k 0 = x at hc1 hst
      have HS := Lib.hid hst; clear hst
      have HN := Lib.hid hnew; clear hnew hc
      have HF := Lib.hid h; clear h
      go_wp2
      go_roundw
      case rel => exact ⟨k + 1, by omega, by go_num, HS.out⟩
      case measure => simp [intOf]; omega
    · have HN := Lib.hid hnew; clear hnew
      go_wp2
      go_ret
      exact ⟨rfl, OwnI.of_new HN.out (by omega), HN.out.1⟩
theorem l_eqI64 (A B : Option Addr) (cap cap' : Nat) (xs : List Int) (w : World) (h : FlI w A xs) (h' : FlI w B xs) (hn : xs.length ≤ 1048576) :
    Calls Try.prog 37 #[.slice A xs.length cap, .slice B xs.length cap'] w fun e w' => ∃ n, e = .returned (.bool true) ∧ w' = w.drewN n := by
  go_enter Try.func37, Try.ntmps37
  go_wp2
  go_loopw [5] (fun i wr => ∃ k n : Nat, k ≤ xs.length ∧ i = .int .i64 k ∧ wr = w.drewN n) (fun i _ => xs.length - (intOf i).toNat)
  case atStart => exact ⟨0, 0, Nat.zero_le _, rfl, rfl⟩
  case round =>
    obtain ⟨k, n, hk, rfl, rfl⟩ := hrel
    by_cases hlt : k < xs.length
    · obtain ⟨b, off, rfl, hb, hc⟩ := h.at_ hlt
      obtain ⟨b', off', rfl, hb', hc'⟩ := h'.at_ hlt
      have HF := Lib.hid h; clear h
      have HF' := Lib.hid h'; clear h'
      generalize xs.getD k 0 = x at hc hc'
      clear hb hb'
      go_wp2_with fail
      go_quiet (fail)
      go_wp2
      go_roundw
      case rel => exact ⟨k + 1, _, by omega, by go_num, rfl⟩
      case measure => simp [intOf]; omega
    · go_wp2
      go_ret
      exact ⟨_, rfl, rfl⟩
end Go.Proofs.Ytpmjikchlofebaa
