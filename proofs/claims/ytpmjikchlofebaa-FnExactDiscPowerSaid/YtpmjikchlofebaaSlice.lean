/- Slices of numbers: what is read of them, how they are copied and compared. No statement is proved here. -/
import Derived.Test.YtpmjikchlofebaaBits
import Derived.LoopTactic
import Derived.Below
import Derived.OwnWalk
import Derived.Deep.RegionWith
namespace Go.Proofs.Ytpmjikchlofebaa
open Go Go.RowKit

theorem below_draws {B : Nat} {a w : World} (h : Below B a w) (n : Nat) : Below B a (w.drewN n) := h.trans ⟨rfl, rfl, rfl, Nat.le_refl _, fun _ _ => rfl⟩
theorem grown_of_below {w w' : World} (h : Below w.heap.size w w') : w.keptBut w' (fun _ => False) := h.frame _

section
variable {P : Program} (w : World) (a : Addr) (m : Mode)
@[go_sem] theorem run_store_float (k : FloatKind) (b : Nat) : (store a (.float k b) m).run P w = stored P w a (.float k b) m := run_store P w a _ m rfl
@[go_sem] theorem run_store_complex (k : FloatKind) (b c : Nat) : (store a (.complex k b c) m).run P w = stored P w a (.complex k b c) m := run_store P w a _ m rfl
end

/-- a slice that reads as these 32-bit numbers -/
def Fl (w : World) (A : Option Addr) (xs : List Nat) : Prop :=
  xs = [] ∨ ∃ b off, A = some ⟨b, off, none⟩ ∧ b < w.heap.size ∧ ∀ k, k < xs.length → w.cell? ⟨b, off + k, none⟩ = some (.float .f32 (xs.getD k 0))

theorem Fl.below {w w' : World} {A : Option Addr} {xs : List Nat} (h : Fl w A xs) (hb : Below w.heap.size w w') : Fl w' A xs := by
  rcases h with h | ⟨b, off, e, hlt, hc⟩
  · exact .inl h
  · exact .inr ⟨b, off, e, Nat.lt_of_lt_of_le hlt hb.size, fun k hk => by rw [hb.cell (p := ⟨b, off + k, none⟩) hlt]; exact hc k hk⟩
theorem Fl.draws {w : World} {A : Option Addr} {xs : List Nat} (h : Fl w A xs) (n : Nat) : Fl (w.drewN n) A xs := h
theorem Fl.at_ {w : World} {A : Option Addr} {xs : List Nat} (h : Fl w A xs) {k : Nat} (hk : k < xs.length) :
    ∃ b off, A = some ⟨b, off, none⟩ ∧ b < w.heap.size ∧ w.cell? ⟨b, off + k, none⟩ = some (.float .f32 (xs.getD k 0)) := by
  rcases h with h | ⟨b, off, e, hlt, hc⟩
  · subst h; simp at hk
  · exact ⟨b, off, e, hlt, hc k hk⟩

/-- a new block of n numbers, of which k are written -/
def FlNew (w wr : World) (B n k : Nat) (xs : List Nat) : Prop :=
  Below w.heap.size w wr ∧ w.heap.size ≤ B ∧ B < wr.heap.size ∧
  ∀ j, j < n → wr.cell? ⟨B, j, none⟩ = some (.float .f32 (if j < k then xs.getD j 0 else 0)) ∧ wr.frozen? ⟨B, j, none⟩ = false

theorem FlNew.start (w : World) (n : Nat) (E : TypeId) (xs : List Nat) : FlNew w (w.alloc (.cells (madeCells #[.float .f32 0] n) E)) w.heap.size n 0 xs := by
  refine ⟨(Below.refl _ _).alloc (Nat.le_refl _) _, Nat.le_refl _, by simp, fun j hj => ⟨?_, ?_⟩⟩
  · rw [World.cell?_alloc_at (w := w) (hn := rfl)]
    rw [if_neg (Nat.not_lt_zero j)]
    simp [madeCells, hj, Nat.mod_one]
  · rw [World.frozen?_alloc_at (w := w) (hn := rfl)]

theorem FlNew.step {w wr : World} {B n k : Nat} {xs : List Nat} (h : FlNew w wr B n k xs) (_hk : k < n) : FlNew w (wr.setCell ⟨B, k, none⟩ (.float .f32 (xs.getD k 0))) B n (k + 1) xs := by
  obtain ⟨h1, h2, h3, h4⟩ := h
  refine ⟨h1.setCell h2 _, h2, by simpa [World.setCell] using h3, fun j hj => ⟨?_, ?_⟩⟩
  · by_cases e : j = k
    · subst e
      rw [World.cell?_setCell_same (h := (h4 j hj).1), if_pos (by omega)]
    · rw [World.cell?_setCell_other (h := by intro hh; simp only [Addr.mk.injEq] at hh; omega), (h4 j hj).1]
      by_cases hj2 : j < k
      · rw [if_pos hj2, if_pos (by omega)]
      · rw [if_neg hj2, if_neg (by omega)]
  · rw [World.frozen?_setCell]; exact (h4 j hj).2

theorem FlNew.done {w wr : World} {B k : Nat} {xs : List Nat} (h : FlNew w wr B xs.length k xs) (hk : xs.length ≤ k) : Fl wr (some ⟨B, 0, none⟩) xs := by
  obtain ⟨h1, h2, h3, h4⟩ := h
  exact .inr ⟨B, 0, rfl, h3, fun j hj => by rw [Nat.zero_add, (h4 j hj).1, if_pos (by omega)]⟩
theorem cell_lt {w : World} {a : Addr} {v : Value} (h : w.cell? a = some v) : a.block < w.heap.size ∧ a.spot = none := by
  unfold World.cell? at h
  split at h
  · rename_i c _ _ hb
    refine ⟨(Array.getElem?_eq_some_iff.1 hb).1, ?_⟩
    cases hs : a.spot with
    | none => rfl
    | some x => rw [hs] at h; simp at h
  · cases h

section
variable {H : Type} {enc : TypeId × Value → H} {P : Program} {w : World} {base : Nat} {spare : Nat → Bool} {held : Bool}
open Go.ChangeShapes Go.WideShapes
theorem trod_float {t : TypeId} {k : FloatKind} {fuel : Nat} {cs : List Value} {x : DataW H × List MemPlace} (ht : P.underlying t = some (.float k)) (h : DataW.trod enc P w base spare held fuel t cs = some x) :
    ∃ b, cs = [.float k b] ∧ (Lit.float k b).wf = true := by
  cases fuel with
  | zero => simp [DataW.trod] at h
  | succ n =>
    unfold DataW.trod at h
    rw [ht] at h
    split at h <;> simp_all

/-- A slice of 32-bit numbers that came in. -/
theorem open_f32s {t e : TypeId} {A : Option Addr} {len cap : Nat} {d : DataW H} {ps : List MemPlace} (ht : P.underlying t = some (.slice e)) (he : P.underlying e = some (.float .f32)) (hc : P.cellsOf e = 1)
    (h : DataW.Trod enc P w base spare held t (.slice A len cap) d ps) :
    ∃ xs : List Nat, len = xs.length ∧ xs.length ≤ maxLen ∧ Fl w A xs ∧ ∀ x ∈ xs, x < words .f32 := by
  obtain ⟨fuel, hf⟩ := h
  rcases DataW.trod_slice ht hf with ⟨h0, -⟩ | ⟨a, len', cap', elems, rest, n, -, hcs, -, hb, hl, hm, hlen, hel, -, -⟩
  · simp [Value.cells] at h0
    obtain ⟨rfl, rfl, rfl⟩ := h0
    exact ⟨[], rfl, Nat.zero_le _, .inl rfl, by simp⟩
  · simp [Value.cells] at hcs
    obtain ⟨rfl, rfl, rfl⟩ := hcs
    have each : ∀ i, i < len → ∃ b, w.cell? (a.add i) = some (.float .f32 b) ∧ b < words .f32 := by
      intro i hi
      have h1 := hel i hi
      rw [List.getElem?_eq_getElem (by omega), hc, Nat.mul_one, Option.bind_eq_some_iff] at h1
      obtain ⟨cs', hcs', hy⟩ := h1
      obtain ⟨b, rfl, hw⟩ := trod_float he hy
      have := (World.cells?_some hcs').2.2 0 (by decide)
      exact ⟨b, by simpa [Addr.add] using this, lt_of_wf hw⟩
    refine ⟨(List.range len).map fun i => match w.cell? (a.add i) with | some (.float _ b) => b | _ => 0, by simp, by simp; omega, ?_, ?_⟩
    · by_cases hz : len = 0
      · left; simp [hz]
      · right
        obtain ⟨b0, hc0, -⟩ := each 0 (by omega)
        have ha : a.add 0 = a := rfl
        rw [ha] at hc0
        obtain ⟨hlt, hsp⟩ := cell_lt hc0
        refine ⟨a.block, a.off, ?_, hlt, fun k hk => ?_⟩
        · cases a; simp_all
        · simp at hk
          obtain ⟨bk, hck, -⟩ := each k hk
          have e1 : a.add k = ⟨a.block, a.off + k, none⟩ := by
            unfold Addr.add
            split
            · rename_i hk0; subst hk0; cases a; simp_all
            · rfl
          rw [e1] at hck
          rw [hck]
          simp [List.getD, hk, e1, hck]
    · intro x hx
      simp only [List.mem_map, List.mem_range] at hx
      obtain ⟨i, hi, rfl⟩ := hx
      obtain ⟨b, hb', hlt⟩ := each i hi
      simp only [hb']; exact hlt
end
theorem make_f32 (n : Nat) (w : World) (h : n ≤ 1048576) : (Instr.makeSlice 32 (.int .i64 n) (.int .i64 n)).run Try.prog w = .ok (.slice (some ⟨w.heap.size, 0, none⟩) n n) (w.alloc (.cells (madeCells #[.float .f32 0] n) 22)) := by
  have hinfo : (Try.prog.info? 22).map (fun i => (i.zero, i.size, i.bytes)) = some (some (.float .f32 0), 1, 4) := by kernel_rfl
  obtain ⟨i0, hi, hz, hs, hb⟩ := info_parts hinfo
  have := run_make (P := Try.prog) w 32 22 i0 (.float .f32 0) (by kernel_rfl) hi hz .i64 .i64 n n (by omega) (by omega) (by rw [hb]; omega) (by omega)
  rw [this, hs]
  simp [Value.cells]
theorem l_toF32 (A : Option Addr) (cap : Nat) (xs : List Nat) (w : World) (h : Fl w A xs) (hn : xs.length ≤ 1048576) :
    Calls Try.prog 15 #[.slice A xs.length cap] w fun e w' => ∃ A' cap', e = .returned (.slice A' xs.length cap') ∧ Fl w' A' xs ∧ Below w.heap.size w w' := by
  have hmk := make_f32 xs.length w hn
  go_enter Try.func15, Try.ntmps15
  go_wp2
  go_loopw [4] (fun i wr => ∃ k : Nat, k ≤ xs.length ∧ i = .int .i64 k ∧ FlNew w wr w.heap.size xs.length k xs) (fun i _ => xs.length - (intOf i).toNat)
  case atStart => exact ⟨0, Nat.zero_le _, rfl, FlNew.start ..⟩
  case round =>
    obtain ⟨k, hk, rfl, hnew⟩ := hrel
    clear hmk
    by_cases hlt : k < xs.length
    · obtain ⟨b, off, rfl, hb, hc⟩ := h.at_ hlt
      have hc1 := hnew.1.cell (p := ⟨b, off + k, none⟩) hb
      rw [hc] at hc1
      obtain ⟨hc2, hc3⟩ := hnew.2.2.2 k hlt
      rw [if_neg (by omega)] at hc2
      have hst := hnew.step hlt
      generalize xs.getD k 0 = x at hc1 hst
      have HS := Lib.hid hst; clear hst
      have HN := Lib.hid hnew; clear hnew hc
      have HF := Lib.hid h; clear h
      go_wp2
      go_roundw
      case rel => exact ⟨k + 1, by omega, by go_num, HS.out⟩
      case measure => simp [intOf]; omega
    · have HN := Lib.hid hnew; clear hnew
      go_wp2
      go_ret
      exact ⟨_, _, rfl, HN.out.done (by omega), HN.out.1⟩
set_option maxHeartbeats 4000000 in
theorem l_eqF32 (A B : Option Addr) (cap cap' : Nat) (xs : List Nat) (w : World) (h : Fl w A xs) (h' : Fl w B xs) (hn : xs.length ≤ 1048576) :
    Calls Try.prog 18 #[.slice A xs.length cap, .slice B xs.length cap'] w fun e w' => ∃ n, e = .returned (.bool true) ∧ w' = w.drewN n := by
  go_enter Try.func18, Try.ntmps18
  go_wp2
  go_loopw [5] (fun i wr => ∃ k n : Nat, k ≤ xs.length ∧ i = .int .i64 k ∧ wr = w.drewN n) (fun i _ => xs.length - (intOf i).toNat)
  case atStart => exact ⟨0, 0, Nat.zero_le _, rfl, rfl⟩
  case round =>
    obtain ⟨k, n, hk, rfl, rfl⟩ := hrel
    by_cases hlt : k < xs.length
    · obtain ⟨b, off, rfl, hb, hc⟩ := h.at_ hlt
      obtain ⟨b', off', rfl, hb', hc'⟩ := h'.at_ hlt
      have HF := Lib.hid h; clear h
      have HF' := Lib.hid h'; clear h'
      generalize xs.getD k 0 = x at hc hc'
      go_wp2
      clear hb hb' HF HF'
      go_region_with (go_at_call 13; refine (sameFloat_yes _ _ _ (by rw [canon_wideV, canon_wideV])).mono ?_; rintro e w' ⟨m, rfl, rfl⟩)
      all_goals
        go_wp2
        go_roundw
        case rel => exact ⟨k + 1, _, by omega, by go_num, rfl⟩
        case measure => simp [intOf]; omega
    · go_wp2
      go_ret
      exact ⟨_, rfl, rfl⟩
end Go.Proofs.Ytpmjikchlofebaa
