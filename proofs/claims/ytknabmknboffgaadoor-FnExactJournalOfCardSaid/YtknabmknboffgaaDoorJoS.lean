/- Lists of strings that came in. No statement is proved here. -/
import Derived.Test.YtknabmknboffgaaDoorJoM
import Derived.Test.YtknabmknboffgaaDoorSlice
namespace Go.Proofs.YtknabmknboffgaaDoor
open Go Go.RowKit
/-- a slice that reads as these 32-bit numbers -/
def FlS (w : World) (A : Option Addr) (xs : List ByteArray) : Prop :=
  xs = [] ∨ ∃ b off, A = some ⟨b, off, none⟩ ∧ b < w.heap.size ∧ ∀ k, k < xs.length → w.cell? ⟨b, off + k, none⟩ = some (.string (xs.getD k ⟨#[]⟩))

theorem FlS.below {w w' : World} {A : Option Addr} {xs : List ByteArray} (h : FlS w A xs) (hb : Below w.heap.size w w') : FlS w' A xs := by
  rcases h with h | ⟨b, off, e, hlt, hc⟩
  · exact .inl h
  · exact .inr ⟨b, off, e, Nat.lt_of_lt_of_le hlt hb.size, fun k hk => by rw [hb.cell (p := ⟨b, off + k, none⟩) hlt]; exact hc k hk⟩
theorem FlS.draws {w : World} {A : Option Addr} {xs : List ByteArray} (h : FlS w A xs) (n : Nat) : FlS (w.drewN n) A xs := h
theorem FlS.at_ {w : World} {A : Option Addr} {xs : List ByteArray} (h : FlS w A xs) {k : Nat} (hk : k < xs.length) :
    ∃ b off, A = some ⟨b, off, none⟩ ∧ b < w.heap.size ∧ w.cell? ⟨b, off + k, none⟩ = some (.string (xs.getD k ⟨#[]⟩)) := by
  rcases h with h | ⟨b, off, e, hlt, hc⟩
  · subst h; simp at hk
  · exact ⟨b, off, e, hlt, hc k hk⟩

/-- a new block of n numbers, of which k are written -/
def FlNewS (w wr : World) (B n k : Nat) (xs : List ByteArray) : Prop :=
  Below w.heap.size w wr ∧ w.heap.size ≤ B ∧ B < wr.heap.size ∧
  ∀ j, j < n → wr.cell? ⟨B, j, none⟩ = some (.string (if j < k then xs.getD j ⟨#[]⟩ else ⟨#[]⟩)) ∧ wr.frozen? ⟨B, j, none⟩ = false

theorem FlNewS.start (w : World) (n : Nat) (E : TypeId) (xs : List ByteArray) : FlNewS w (w.alloc (.cells (madeCells #[.string ⟨#[]⟩] n) E)) w.heap.size n 0 xs := by
  refine ⟨(Below.refl _ _).alloc (Nat.le_refl _) _, Nat.le_refl _, by simp, fun j hj => ⟨?_, ?_⟩⟩
  · rw [World.cell?_alloc_at (w := w) (hn := rfl)]
    rw [if_neg (Nat.not_lt_zero j)]
    simp [madeCells, hj, Nat.mod_one]
  · rw [World.frozen?_alloc_at (w := w) (hn := rfl)]

theorem FlNewS.step {w wr : World} {B n k : Nat} {xs : List ByteArray} (h : FlNewS w wr B n k xs) (_hk : k < n) : FlNewS w (wr.setCell ⟨B, k, none⟩ (.string (xs.getD k ⟨#[]⟩))) B n (k + 1) xs := by
  obtain ⟨h1, h2, h3, h4⟩ := h
  refine ⟨h1.setCell h2 _, h2, by simpa [World.setCell] using h3, fun j hj => ⟨?_, ?_⟩⟩
  · by_cases e : j = k
    · subst e
      rw [World.cell?_setCell_same (h := (h4 j hj).1), if_pos (by omega)]
    · rw [World.cell?_setCell_other (h := by intro hh; simp only [Addr.mk.injEq] at hh; omega), (h4 j hj).1]
      by_cases hj2 : j < k
      · rw [if_pos hj2, if_pos (by omega)]
      · rw [if_neg hj2, if_neg (by omega)]
  · rw [World.frozen?_setCell]; exact (h4 j hj).2

theorem FlNewS.done {w wr : World} {B k : Nat} {xs : List ByteArray} (h : FlNewS w wr B xs.length k xs) (hk : xs.length ≤ k) : FlS wr (some ⟨B, 0, none⟩) xs := by
  obtain ⟨h1, h2, h3, h4⟩ := h
  exact .inr ⟨B, 0, rfl, h3, fun j hj => by rw [Nat.zero_add, (h4 j hj).1, if_pos (by omega)]⟩
section
variable {H : Type} {enc : TypeId × Value → H} {P : Program} {w : World} {base : Nat} {spare : Nat → Bool} {held : Bool}
theorem open_strs {t e : TypeId} {A : Option Addr} {len cap : Nat} {d : DataW H} {ps : List MemPlace} (ht : P.underlying t = some (.slice e)) (he : P.underlying e = some .string) (hc : P.cellsOf e = 1)
    (h : DataW.Trod enc P w base spare held t (.slice A len cap) d ps) :
    ∃ xs : List ByteArray, len = xs.length ∧ xs.length ≤ maxLen ∧ FlS w A xs ∧ ∀ x ∈ xs, x.size ≤ maxLen := by
  obtain ⟨fuel, hf⟩ := h
  rcases DataW.trod_slice ht hf with ⟨h0, -⟩ | ⟨a, len', cap', elems, rest, n, -, hcs, -, hb, hl, hm, hlen, hel, -, -⟩
  · simp [Value.cells] at h0
    obtain ⟨rfl, rfl, rfl⟩ := h0
    exact ⟨[], rfl, Nat.zero_le _, .inl rfl, by simp⟩
  · simp [Value.cells] at hcs
    obtain ⟨rfl, rfl, rfl⟩ := hcs
    have each : ∀ i, i < len → ∃ b, w.cell? (a.add i) = some (.string b) ∧ b.size ≤ maxLen := by
      intro i hi
      have h1 := hel i hi
      rw [List.getElem?_eq_getElem (by omega), hc, Nat.mul_one, Option.bind_eq_some_iff] at h1
      obtain ⟨cs', hcs', hy⟩ := h1
      obtain ⟨b, rfl, -, hsz⟩ := DataW.trod_string he hy
      have := (World.cells?_some hcs').2.2 0 (by decide)
      exact ⟨b, by simpa [Addr.add] using this, hsz⟩
    refine ⟨(List.range len).map fun i => match w.cell? (a.add i) with | some (.string b) => b | _ => ⟨#[]⟩, by simp, by simp; omega, ?_, ?_⟩
    rotate_left
    · intro x hx
      simp only [List.mem_map, List.mem_range] at hx
      obtain ⟨i, hi, rfl⟩ := hx
      obtain ⟨b, hb, hsz⟩ := each i hi
      rw [hb]
      exact hsz
    by_cases hz : len = 0
    · left; simp [hz]
    · right
      obtain ⟨b0, hc0, -⟩ := each 0 (by omega)
      have ha : a.add 0 = a := rfl
      rw [ha] at hc0
      obtain ⟨hlt, hsp⟩ := cell_lt hc0
      refine ⟨a.block, a.off, ?_, hlt, fun k hk => ?_⟩
      · cases a; simp_all
      · simp at hk
        obtain ⟨bk, hck, -⟩ := each k hk
        have e1 : a.add k = ⟨a.block, a.off + k, none⟩ := by
          unfold Addr.add
          split
          · rename_i hk0; subst hk0; cases a; simp_all
          · rfl
        rw [← e1, hck]
        simp [List.getD, hk, hck]
end
theorem make_str (n : Nat) (w : World) (h : n ≤ 1048576) : (Instr.makeSlice 22 (.int .i64 n) (.int .i64 n)).run Tryd.prog w = .ok (.slice (some ⟨w.heap.size, 0, none⟩) n n) (w.alloc (.cells (madeCells #[.string ⟨#[]⟩] n) 9)) := by
  have hinfo : (Tryd.prog.info? 9).map (fun i => (i.zero, i.size, i.bytes)) = some (some (.string ⟨#[]⟩), 1, 16) := by kernel_rfl
  obtain ⟨i0, hi, hz, hs, hb⟩ := info_parts hinfo
  have := run_make (P := Tryd.prog) w 22 9 i0 (.string ⟨#[]⟩) (by kernel_rfl) hi hz .i64 .i64 n n (by omega) (by omega) (by rw [hb]; omega) (by omega)
  rw [this, hs]
  simp [Value.cells]
set_option maxHeartbeats 2000000 in
theorem l_toS (A : Option Addr) (cap : Nat) (xs : List ByteArray) (w : World) (h : FlS w A xs) (hn : xs.length ≤ 1048576) :
    Calls Tryd.prog 8 #[.slice A xs.length cap] w fun e w' => e = .returned (.slice (some ⟨w.heap.size, 0, none⟩) xs.length xs.length) ∧ FlS w' (some ⟨w.heap.size, 0, none⟩) xs ∧ Below w.heap.size w w' := by
  have hmk := make_str xs.length w hn
  go_enter Tryd.func8, Tryd.ntmps8
  go_wp2
  go_loopw [4] (fun i wr => ∃ k : Nat, k ≤ xs.length ∧ i = .int .i64 k ∧ FlNewS w wr w.heap.size xs.length k xs) (fun i _ => xs.length - (intOf i).toNat)
  case atStart => exact ⟨0, Nat.zero_le _, rfl, FlNewS.start ..⟩
  case round =>
    obtain ⟨k, hk, rfl, hnew⟩ := hrel
    clear hmk
    by_cases hlt : k < xs.length
    · obtain ⟨b, off, rfl, hb, hc⟩ := h.at_ hlt
      have hc1 := hnew.1.cell (p := ⟨b, off + k, none⟩) hb
      rw [hc] at hc1
      obtain ⟨hc2, hc3⟩ := hnew.2.2.2 k hlt
      rw [if_neg (by omega)] at hc2
      have hst := hnew.step hlt
      generalize xs.getD k ⟨#[]⟩ = x at hc1 hst
      have HS := Lib.hid hst; clear hst
      have HN := Lib.hid hnew; clear hnew hc
      have HF := Lib.hid h; clear h
      go_wp2
      go_roundw
      case rel => exact ⟨k + 1, by omega, by go_num, HS.out⟩
      case measure => simp [intOf]; omega
    · have HN := Lib.hid hnew; clear hnew
      go_wp2
      go_ret
      exact ⟨rfl, HN.out.done (by omega), HN.out.1⟩
set_option maxHeartbeats 2000000 in
theorem l_eqS (A B : Option Addr) (cap cap' : Nat) (xs : List ByteArray) (w : World) (h : FlS w A xs) (h' : FlS w B xs) (hn : xs.length ≤ 1048576) :
    Calls Tryd.prog 10 #[.slice A xs.length cap, .slice B xs.length cap'] w fun e w' => ∃ n, e = .returned (.bool true) ∧ w' = w.drewN n := by
  go_enter Tryd.func10, Tryd.ntmps10
  go_wp2
  go_loopw [5] (fun i wr => ∃ k n : Nat, k ≤ xs.length ∧ i = .int .i64 k ∧ wr = w.drewN n) (fun i _ => xs.length - (intOf i).toNat)
  case atStart => exact ⟨0, 0, Nat.zero_le _, rfl, rfl⟩
  case round =>
    obtain ⟨k, n, hk, rfl, rfl⟩ := hrel
    by_cases hlt : k < xs.length
    · obtain ⟨b, off, rfl, hb, hc⟩ := h.at_ hlt
      obtain ⟨b', off', rfl, hb', hc'⟩ := h'.at_ hlt
      have HF := Lib.hid h; clear h
      have HF' := Lib.hid h'; clear h'
      generalize xs.getD k ⟨#[]⟩ = x at hc hc'
      clear hb hb'
      have hxx : (x.toList == x.toList) = true := by simp
      go_wp2_with fail
      go_quiet (fail)
      go_wp2
      go_roundw
      case rel => exact ⟨k + 1, _, by omega, by go_num, rfl⟩
      case measure => simp [intOf]; omega
    · go_wp2
      go_ret
      exact ⟨_, rfl, rfl⟩
set_option maxHeartbeats 2000000 in
theorem l_szS_yes (A : Option Addr) (cap : Nat) (xs : List ByteArray) (w : World) (h : FlS w A xs) (hs : szT xs ≤ 1048576) :
    Calls Tryd.prog 6 #[.slice A xs.length cap, .int .i64 1048576] w fun e w' => e = .returned (.int .i64 (1048576 - (szT xs : Int))) ∧ w' = w := by
  have HS := Lib.hid hs
  have hn : xs.length ≤ 1048576 := by unfold szT at hs; omega
  have hni : (xs.length : Int) ≤ 1048576 := by omega
  have HM := Lib.hid (fun k (hk : k ≤ xs.length) => szK_mono xs (k := k) xs.length hk)
  clear hs
  go_enter Tryd.func6, Tryd.ntmps6
  go_wp2
  go_loopw [1, 5] (fun q i wr => ∃ k : Nat, k ≤ xs.length ∧ i = .int .i64 k ∧ q = .int .i64 (1048576 - (xs.length : Int) - (szK xs k : Int)) ∧ w = wr) (fun _ i _ => xs.length - (intOf i).toNat)
  case atStart => exact ⟨0, Nat.zero_le _, rfl, by simp [szK], rfl⟩
  case round =>
    obtain ⟨k, hk, rfl, rfl, rfl⟩ := hrel
    by_cases hlt : k < xs.length
    · obtain ⟨b, off, rfl, hb, hc⟩ := h.at_ hlt
      have HF := Lib.hid h
      clear h hb
      have hb1 := HM.out (k + 1) (by omega)
      have hb2 := HS.out
      have e1 : szK xs (k + 1) = szK xs k + (lnK xs k).size := rfl
      have e2 : szT xs = xs.length + szK xs xs.length := rfl
      rw [show xs.getD k ⟨#[]⟩ = lnK xs k from rfl] at hc
      have HE := Lib.hid e1
      generalize lnK xs k = x at hc e1 HE
      have hlt0 : ¬ (1048576 - (xs.length : Int) - (szK xs k : Int) - (x.size : Int) < 0) := by omega
      have hd1 : (0 : Int) ≤ (x.size : Int) := by omega
      have hd2 : (x.size : Int) ≤ 1048576 := by omega
      have hd3 : (0 : Int) ≤ (szK xs k : Int) := by omega
      have hd4 : (szK xs k : Int) ≤ 1048576 := by omega
      clear hb1 hb2 e1 e2
      go_wp2
      go_roundw
      case rel => exact ⟨k + 1, by omega, by go_num, congrArg (Value.int IntKind.i64) (by rw [HE.out]; omega), trivial⟩
      case measure => simp [intOf]; omega
    · have hkk : k = xs.length := by omega
      subst hkk
      go_wp2
      go_ret
      exact ⟨congrArg (fun z => Ending.returned (Value.int IntKind.i64 z)) (by unfold szT; omega), rfl⟩
set_option maxHeartbeats 2000000 in
theorem l_szS_no (A : Option Addr) (cap : Nat) (xs : List ByteArray) (w : World) (h : FlS w A xs) (hl : xs.length ≤ maxLen) (hm : ∀ k, k < xs.length → (lnK xs k).size ≤ maxLen) (hs : 1048576 < szT xs) :
    Calls Tryd.prog 6 #[.slice A xs.length cap, .int .i64 1048576] w fun e w' => e = .returned (.int .i64 (-1)) ∧ w' = w := by
  have HS := Lib.hid hs
  have HM := Lib.hid hm
  have hl2 : (xs.length : Int) ≤ 9223372036854775807 := by unfold maxLen at hl; omega
  clear hs hm hl
  by_cases hn : (xs.length : Int) ≤ 1048576
  · go_enter Tryd.func6, Tryd.ntmps6
    go_wp2
    go_loopw [1, 5] (fun q i wr => ∃ k : Nat, k ≤ xs.length ∧ i = .int .i64 k ∧ q = .int .i64 (1048576 - (xs.length : Int) - (szK xs k : Int)) ∧ (xs.length : Int) + (szK xs k : Int) ≤ 1048576 ∧ w = wr) (fun _ i _ => xs.length - (intOf i).toNat)
    case atStart => exact ⟨0, Nat.zero_le _, rfl, by simp [szK], by simpa [szK] using hn, rfl⟩
    case round =>
      obtain ⟨k, hk, rfl, rfl, hfit, rfl⟩ := hrel
      by_cases hlt : k < xs.length
      · obtain ⟨b, off, rfl, hb, hc⟩ := h.at_ hlt
        have HF := Lib.hid h
        clear h hb
        have hx := HM.out k hlt
        have e1 : szK xs (k + 1) = szK xs k + (lnK xs k).size := rfl
        rw [show xs.getD k ⟨#[]⟩ = lnK xs k from rfl] at hc
        have HE := Lib.hid e1
        generalize lnK xs k = x at hc e1 HE hx
        have hd1 : (0 : Int) ≤ (x.size : Int) := by omega
        have hd2 : (x.size : Int) ≤ 9223372036854775807 := by unfold maxLen at hx; omega
        have hd3 : (0 : Int) ≤ (szK xs k : Int) := by omega
        have hd4 : (szK xs k : Int) ≤ 1048576 := by omega
        clear e1 hx
        by_cases hx2 : 1048576 - (xs.length : Int) - (szK xs k : Int) - (x.size : Int) < 0
        · go_wp2
          go_ret
          exact ⟨rfl, rfl⟩
        · go_wp2
          go_roundw
          case rel => exact ⟨k + 1, by omega, by go_num, congrArg (Value.int IntKind.i64) (by rw [HE.out]; omega), by rw [HE.out]; omega, trivial⟩
          case measure => simp [intOf]; omega
      · have hkk : k = xs.length := by omega
        have := HS.out
        unfold szT at this
        subst hkk
        omega
  · have hlt : 1048576 - (xs.length : Int) < 0 := by omega
    clear h
    go_enter Tryd.func6, Tryd.ntmps6
    go_wp2
    go_ret
    exact ⟨rfl, rfl⟩
end Go.Proofs.YtknabmknboffgaaDoor
