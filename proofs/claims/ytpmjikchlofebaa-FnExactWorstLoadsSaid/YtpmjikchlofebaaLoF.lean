/- Lists of lists of 32-bit numbers: copies, sizes, comparison, marks. No statement is proved here. -/
import Derived.Test.YtpmjikchlofebaaLoL
import Derived.Test.YtpmjikchlofebaaMarkR
namespace Go.Proofs.Ytpmjikchlofebaa
open Go Go.RowKit
/-- a slice that reads as these lists -/
def FlLL (w : World) (A : Option Addr) (ls : List (List Nat)) : Prop :=
  ls = [] ∨ ∃ (b off : Nat), A = some ⟨b, off, none⟩ ∧ b < w.heap.size ∧ ∀ k, k < ls.length → ∃ (Ak : Option Addr) (ck : Nat), w.cell? ⟨b, off + k, none⟩ = some (.slice Ak (ls.getD k []).length ck) ∧ Fl w Ak (ls.getD k [])
theorem FlLL.below {w w' : World} {A : Option Addr} {ls : List (List Nat)} (h : FlLL w A ls) (hb : Below w.heap.size w w') : FlLL w' A ls := by
  rcases h with h | ⟨b, off, e, hlt, hc⟩
  · exact .inl h
  · refine .inr ⟨b, off, e, Nat.lt_of_lt_of_le hlt hb.size, fun k hk => ?_⟩
    obtain ⟨Ak, ck, h1, h2⟩ := hc k hk
    exact ⟨Ak, ck, by rw [hb.cell (p := ⟨b, off + k, none⟩) hlt]; exact h1, h2.below hb⟩
theorem FlLL.at_ {w : World} {A : Option Addr} {ls : List (List Nat)} (h : FlLL w A ls) {k : Nat} (hk : k < ls.length) :
    ∃ (b off : Nat) (Ak : Option Addr) (ck : Nat), A = some ⟨b, off, none⟩ ∧ b < w.heap.size ∧ w.cell? ⟨b, off + k, none⟩ = some (.slice Ak (ls.getD k []).length ck) ∧ Fl w Ak (ls.getD k []) := by
  rcases h with h | ⟨b, off, e, hlt, hc⟩
  · subst h; simp at hk
  · obtain ⟨Ak, ck, h1, h2⟩ := hc k hk
    exact ⟨b, off, Ak, ck, e, hlt, h1, h2⟩
theorem FlL.ll {w : World} {A : Option Addr} {xs : List (Option Addr × Nat × List Nat)} (h : FlL w A xs) : FlLL w A (xs.map (·.2.2)) := by
  rcases h with h | ⟨b, off, e, hlt, hc⟩
  · subst h; exact .inl rfl
  · refine .inr ⟨b, off, e, hlt, fun k hk => ?_⟩
    rw [List.length_map] at hk
    have e2 : (xs.map (·.2.2)).getD k [] = (xs.getD k (none, 0, [])).2.2 := by simp [List.getD, hk]
    rw [e2]
    exact ⟨_, _, (hc k hk).1, (hc k hk).2⟩
/-- a copy of the call's own: its block, and a block for each list -/
def OwnLL (w : World) (B0 : Nat) (g : Nat) (q : Nat → Nat) (ls : List (List Nat)) : Prop :=
  B0 ≤ g ∧ g < w.heap.size ∧ (∀ k, k < ls.length → w.cell? ⟨g, k, none⟩ = some (.slice (some ⟨q k, 0, none⟩) (ls.getD k []).length (ls.getD k []).length) ∧ g < q k ∧ Own w (q k) (ls.getD k [])) ∧ ∀ i j, i < j → j < ls.length → q i ≠ q j
theorem OwnLL.fl {w : World} {B0 g : Nat} {q : Nat → Nat} {ls : List (List Nat)} (h : OwnLL w B0 g q ls) : FlLL w (some ⟨g, 0, none⟩) ls :=
  .inr ⟨g, 0, rfl, h.2.1, fun k hk => ⟨_, _, by rw [Nat.zero_add]; exact (h.2.2.1 k hk).1, (h.2.2.1 k hk).2.2.fl⟩⟩
theorem OwnLL.below {w w' : World} {B0 g : Nat} {q : Nat → Nat} {ls : List (List Nat)} (h : OwnLL w B0 g q ls) (hb : Below w.heap.size w w') : OwnLL w' B0 g q ls :=
  ⟨h.1, Nat.lt_of_lt_of_le h.2.1 hb.size, fun k hk => ⟨by rw [hb.cell (p := ⟨g, k, none⟩) h.2.1]; exact (h.2.2.1 k hk).1, (h.2.2.1 k hk).2.1, (h.2.2.1 k hk).2.2.below hb⟩, h.2.2.2⟩
/-- where its lists lie -/
def SLL (ls : List (List Nat)) (q : Nat → Nat) : Nat → Prop := fun b => ∃ i, i < ls.length ∧ b = q i
theorem OwnLL.bd {w : World} {B0 g : Nat} {q : Nat → Nat} {ls : List (List Nat)} (h : OwnLL w B0 g q ls) {c : Nat} (hc : SLL ls q c) : B0 ≤ c ∧ c < w.heap.size := by
  obtain ⟨i, hi, rfl⟩ := hc
  have := (h.2.2.1 i hi).2.1
  exact ⟨by have := h.1; omega, (h.2.2.1 i hi).2.2.1⟩
/-- how many numbers the first lists have -/
def sumL (ls : List (List Nat)) : Nat → Nat
  | 0 => 0
  | k + 1 => sumL ls k + (ls.getD k []).length
theorem sumL_mono (ls : List (List Nat)) {j k : Nat} (h : j ≤ k) : sumL ls j ≤ sumL ls k := by
  induction k with
  | zero => have : j = 0 := by omega
            rw [this]; exact Nat.le_refl _
  | succ k ih =>
    by_cases e : j = k + 1
    · rw [e]; exact Nat.le_refl _
    · have := ih (by omega); simp only [sumL]; omega
theorem sumL_at {ls : List (List Nat)} {k : Nat} (h : k < ls.length) : (ls.getD k []).length ≤ sumL ls ls.length := by
  have h1 : sumL ls (k + 1) ≤ sumL ls ls.length := sumL_mono ls (by omega)
  simp only [sumL] at h1
  omega
def totL (ls : List (List Nat)) : Nat := ls.length + sumL ls ls.length
set_option maxHeartbeats 4000000 in
theorem l_szLL (A : Option Addr) (cap : Nat) (ls : List (List Nat)) (w : World) (h : FlLL w A ls) (hn : ls.length ≤ 9223372036854775807) (hm : ∀ k, k < ls.length → (ls.getD k []).length ≤ 9223372036854775807) :
    Calls Try.prog 33 #[.slice A ls.length cap, .int .i64 1048576] w fun e w' => (∃ x : Int, e = .returned (.int .i64 x) ∧ (totL ls ≤ 1048576 → x = 1048576 - (totL ls : Int)) ∧ (1048576 < totL ls → x = -1)) ∧ w' = w := by
  have H := Lib.hid h; clear h
  have HM := Lib.hid hm; clear hm
  by_cases h1 : ls.length ≤ 1048576
  · go_enter Try.func33, Try.ntmps33
    go_wp2
    go_loopw [1, 5] (fun s i wr => ∃ k : Nat, k ≤ ls.length ∧ i = .int .i64 k ∧ s = .int .i64 (1048576 - (ls.length : Int) - (sumL ls k : Int)) ∧ Hid (ls.length + sumL ls k ≤ 1048576) ∧ w = wr) (fun _ i _ => ls.length - (intOf i).toNat)
    case atStart => exact ⟨0, Nat.zero_le _, rfl, congrArg (Value.int IntKind.i64) (by simp [sumL]), Lib.hid (by simpa [sumL] using h1), rfl⟩
    case round =>
      obtain ⟨k, hk, rfl, rfl, HT, rfl⟩ := hrel
      by_cases hlt : k < ls.length
      · obtain ⟨b, off, Ak, ck, rfl, -, hc, -⟩ := H.out.at_ hlt
        have HS : Hid (sumL ls (k + 1) = sumL ls k + (ls.getD k []).length) := Lib.hid rfl
        have HMK := Lib.hid (HM.out k hlt)
        have HMO : Hid (sumL ls (k + 1) ≤ sumL ls ls.length) := Lib.hid (sumL_mono ls (by omega))
        generalize (ls.getD k []).length = n at hc HS HMK
        by_cases h2 : ls.length + sumL ls (k + 1) ≤ 1048576
        · have HT2 := Lib.hid h2
          clear h2
          go_wp2_with fail
          refine (l_szF32_yes Ak n ck _ _ (by have := HT2.out; have := HS.out; omega) (by omega)).mono ?_
          rintro e w' ⟨rfl, rfl⟩
          have hpos : ¬ (1048576 - (ls.length : Int) - (sumL ls k : Int)) - (n : Int) < 0 := by have := HT2.out; have := HS.out; omega
          go_wp2
          go_roundw
          case rel => exact ⟨k + 1, by omega, by go_num, congrArg (Value.int IntKind.i64) (by have := HS.out; omega), HT2, by first | rfl | trivial⟩
          case measure => simp [intOf]; omega
        · have HT2 := Lib.hid h2
          clear h2
          go_wp2_with fail
          refine (l_szF32_no Ak n ck _ _ (by have := HT2.out; have := HS.out; omega) (by have := HT.out; omega) (by omega) HMK.out).mono ?_
          rintro e w' ⟨rfl, rfl⟩
          have hbig : 1048576 < totL ls := by have := HT2.out; have := HMO.out; unfold totL; omega
          have HBG := Lib.hid hbig
          clear hbig
          go_wp2
          go_ret
          exact ⟨⟨-1, rfl, fun h => absurd HBG.out (by omega), fun _ => rfl⟩, rfl⟩
      · have hkk : k = ls.length := by omega
        subst hkk
        go_wp2
        go_ret
        have := HT.out
        exact ⟨⟨_, rfl, fun _ => by unfold totL; omega, fun h => absurd h (by unfold totL; omega)⟩, rfl⟩
  · have hw : IntKind.i64.wrap ((1048576 : Int) - (ls.length : Int)) = (1048576 : Int) - (ls.length : Int) := IntWalk.i64_in _ (by omega)
    have HBG : Hid (1048576 < totL ls) := Lib.hid (by unfold totL; omega)
    have hneg : (1048576 : Int) - (ls.length : Int) < 0 := by omega
    go_enter Try.func33, Try.ntmps33
    go_wp2
    go_ret
    exact ⟨⟨-1, rfl, fun h => absurd HBG.out (by omega), fun _ => rfl⟩, rfl⟩
def NewLL (w wr : World) (n k : Nat) (q : Nat → Nat) (ls : List (List Nat)) : Prop :=
  Below w.heap.size w wr ∧ w.heap.size < wr.heap.size ∧ (∀ j, j < n → ∃ v, wr.cell? ⟨w.heap.size, j, none⟩ = some v ∧ wr.frozen? ⟨w.heap.size, j, none⟩ = false) ∧
  (∀ j, j < k → wr.cell? ⟨w.heap.size, j, none⟩ = some (.slice (some ⟨q j, 0, none⟩) (ls.getD j []).length (ls.getD j []).length) ∧ w.heap.size < q j ∧ Own wr (q j) (ls.getD j [])) ∧ ∀ i j, i < j → j < k → q i ≠ q j
theorem NewLL.start (w : World) (n : Nat) (E : TypeId) (q : Nat → Nat) (ls : List (List Nat)) : NewLL w (w.alloc (.cells (madeCells #[.slice none 0 0] n) E)) n 0 q ls := by
  refine ⟨(Below.refl _ _).alloc (Nat.le_refl _) _, by simp, fun j hj => ⟨.slice none 0 0, ?_, ?_⟩, fun j hj => absurd hj (Nat.not_lt_zero j), fun i j _ hj => absurd hj (Nat.not_lt_zero j)⟩
  · rw [World.cell?_alloc_at (w := w) (hn := rfl)]
    simp [madeCells, hj, Nat.mod_one]
  · rw [World.frozen?_alloc_at (w := w) (hn := rfl)]
def putN (q : Nat → Nat) (n b : Nat) : Nat → Nat := fun k => if k < n then q k else b
theorem NewLL.next {w wr w1 : World} {n k : Nat} {q : Nat → Nat} {ls : List (List Nat)} (h : NewLL w wr n k q ls) (hk : k < n) (hb : Below wr.heap.size wr w1) (ho : Own w1 wr.heap.size (ls.getD k [])) :
    NewLL w (w1.setCell ⟨w.heap.size, k, none⟩ (.slice (some ⟨wr.heap.size, 0, none⟩) (ls.getD k []).length (ls.getD k []).length)) n (k + 1) (putN q k wr.heap.size) ls := by
  obtain ⟨h1, h2, h3, h4, h5⟩ := h
  have hs := hb.size
  have b1 := below_of h1 h1.size hb
  refine ⟨b1.setCell (Nat.le_refl _) _, by simp [World.setCell]; omega, fun j hj => ?_, fun j hj => ?_, fun i j hij hj => ?_⟩
  · obtain ⟨v, c1, c2⟩ := h3 j hj
    rw [World.frozen?_setCell, hb.frozen (p := ⟨w.heap.size, j, none⟩) h2]
    by_cases e : j = k
    · subst e
      exact ⟨_, by rw [World.cell?_setCell_same (h := (hb.cell (p := ⟨w.heap.size, j, none⟩) h2).trans c1)], c2⟩
    · rw [World.cell?_setCell_other (h := by intro hh; simp only [Addr.mk.injEq] at hh; omega), hb.cell (p := ⟨w.heap.size, j, none⟩) h2]
      exact ⟨v, c1, c2⟩
  · unfold putN
    by_cases e : j < k
    · obtain ⟨c1, c2, c3⟩ := h4 j e
      rw [if_pos e]
      refine ⟨?_, c2, (c3.below hb).setCell (by show w.heap.size ≠ q j; omega) _⟩
      rw [World.cell?_setCell_other (h := by intro hh; simp only [Addr.mk.injEq] at hh; omega), hb.cell (p := ⟨w.heap.size, j, none⟩) h2]
      exact c1
    · have e2 : j = k := by omega
      subst e2
      rw [if_neg e]
      obtain ⟨v, c1, -⟩ := h3 j hk
      exact ⟨by rw [World.cell?_setCell_same (h := (hb.cell (p := ⟨w.heap.size, j, none⟩) h2).trans c1)], h2, ho.setCell (by show w.heap.size ≠ wr.heap.size; omega) _⟩
  · unfold putN
    by_cases e : j < k
    · rw [if_pos e, if_pos (by omega)]; exact h5 i j hij e
    · rw [if_neg e, if_pos (by omega)]
      have := (h4 i (by omega)).2.2.1
      omega
theorem NewLL.done {w wr : World} {q : Nat → Nat} {ls : List (List Nat)} (h : NewLL w wr ls.length ls.length q ls) : OwnLL wr w.heap.size w.heap.size q ls :=
  ⟨Nat.le_refl _, h.2.1, h.2.2.2.1, h.2.2.2.2⟩
theorem make_f32s (n : Nat) (w : World) (h : n ≤ 1048576) : (Instr.makeSlice 58 (.int .i64 n) (.int .i64 n)).run Try.prog w = .ok (.slice (some ⟨w.heap.size, 0, none⟩) n n) (w.alloc (.cells (madeCells #[.slice none 0 0] n) 32)) := by
  have hinfo : (Try.prog.info? 32).map (fun i => (i.zero, i.size, i.bytes)) = some (some (.slice none 0 0), 1, 24) := by kernel_rfl
  obtain ⟨i0, hi, hz, hs, hb⟩ := info_parts hinfo
  have := run_make (P := Try.prog) w 58 32 i0 (.slice none 0 0) (by kernel_rfl) hi hz .i64 .i64 n n (by omega) (by omega) (by rw [hb]; omega) (by omega)
  rw [this, hs]
  simp [Value.cells]
set_option maxHeartbeats 4000000 in
theorem l_toLL (A : Option Addr) (cap : Nat) (ls : List (List Nat)) (w : World) (h : FlLL w A ls) (hn : totL ls ≤ 1048576) :
    Calls Try.prog 35 #[.slice A ls.length cap] w fun e w' => ∃ g q, e = .returned (.slice (some ⟨g, 0, none⟩) ls.length ls.length) ∧ OwnLL w' w.heap.size g q ls ∧ Below w.heap.size w w' := by
  have H := Lib.hid h; clear h
  have HN := Lib.hid hn
  have hl : ls.length ≤ 1048576 := by unfold totL at hn; omega
  have hmk := make_f32s ls.length w hl
  clear hn
  go_enter Try.func35, Try.ntmps35
  go_wp2
  clear hmk
  go_loopw [4] (fun i wr => ∃ (k : Nat) (q : Nat → Nat), k ≤ ls.length ∧ i = .int .i64 k ∧ Hid (NewLL w wr ls.length k q ls)) (fun i _ => ls.length - (intOf i).toNat)
  case atStart => exact ⟨0, fun _ => 0, Nat.zero_le _, rfl, Lib.hid (NewLL.start ..)⟩
  case round =>
    obtain ⟨k, q, hk, rfl, HNW⟩ := hrel
    by_cases hlt : k < ls.length
    · obtain ⟨b, off, Ak, ck, rfl, hb, hc, hfl⟩ := (H.out.below HNW.out.1).at_ hlt
      have HFL := Lib.hid hfl
      have HLE : Hid ((ls.getD k []).length ≤ 1048576) := Lib.hid (by have := sumL_at hlt; have := HN.out; unfold totL at this; omega)
      have HT := Lib.hid (l_toF32N Ak ck (ls.getD k []) wr hfl HLE.out)
      have HNX : Hid (∀ w1, Below wr.heap.size wr w1 → Own w1 wr.heap.size (ls.getD k []) → NewLL w (w1.setCell ⟨w.heap.size, k, none⟩ (.slice (some ⟨wr.heap.size, 0, none⟩) (ls.getD k []).length (ls.getD k []).length)) ls.length (k + 1) (putN q k wr.heap.size) ls) := Lib.hid (fun w1 hb ho => HNW.out.next hlt hb ho)
      clear hfl hb HFL HLE
      generalize ls.getD k [] = xs at hc HT HNX
      go_wp2_with fail
      refine HT.out.mono ?_
      rintro e w1 ⟨rfl, ho, b1⟩
      have HX := Lib.hid (HNX.out w1 b1 ho)
      obtain ⟨v, hc2, hc3⟩ : ∃ v, w1.cell? ⟨w.heap.size, k, none⟩ = some v ∧ w1.frozen? ⟨w.heap.size, k, none⟩ = false := by
        obtain ⟨v, c1, c2⟩ := HNW.out.2.2.1 k hlt
        exact ⟨v, (b1.cell (p := ⟨w.heap.size, k, none⟩) HNW.out.2.1).trans c1, (b1.frozen (p := ⟨w.heap.size, k, none⟩) HNW.out.2.1).trans c2⟩
      clear HT HNX ho b1 hc
      go_wp2
      go_roundw
      case rel => exact ⟨k + 1, _, by omega, by go_num, HX⟩
      case measure => simp [intOf]; omega
    · have hkk : k = ls.length := by omega
      subst hkk
      go_wp2
      go_ret
      exact ⟨_, q, rfl, HNW.out.done, HNW.out.1⟩
set_option maxHeartbeats 4000000 in
theorem l_eqLL (A B : Option Addr) (cap cap' : Nat) (ls : List (List Nat)) (w : World) (h : FlLL w A ls) (h' : FlLL w B ls) (hn : totL ls ≤ 1048576) :
    Calls Try.prog 38 #[.slice A ls.length cap, .slice B ls.length cap'] w fun e w' => ∃ n, e = .returned (.bool true) ∧ w' = w.drewN n := by
  have HN := Lib.hid hn
  have hl : ls.length ≤ 1048576 := by unfold totL at hn; omega
  clear hn
  have H := Lib.hid h; clear h
  have H' := Lib.hid h'; clear h'
  go_enter Try.func38, Try.ntmps38
  go_wp2
  go_loopw [5] (fun i wr => ∃ k n : Nat, k ≤ ls.length ∧ i = .int .i64 k ∧ wr = w.drewN n) (fun i _ => ls.length - (intOf i).toNat)
  case atStart => exact ⟨0, 0, Nat.zero_le _, rfl, rfl⟩
  case round =>
    obtain ⟨k, n, hk, rfl, rfl⟩ := hrel
    by_cases hlt : k < ls.length
    · obtain ⟨b, off, Ak, ck, rfl, -, c1, c2⟩ := H.out.at_ hlt
      obtain ⟨b', off', Ak', ck', rfl, -, d1, d2⟩ := H'.out.at_ hlt
      have hle : (ls.getD k []).length ≤ 1048576 := by have := sumL_at hlt; have := HN.out; unfold totL at this; omega
      have HE : ∀ W, Below w.heap.size w W → Hid (Calls Try.prog 18 #[.slice Ak (ls.getD k []).length ck, .slice Ak' (ls.getD k []).length ck'] W fun e w' => ∃ n, e = .returned (.bool true) ∧ w' = W.drewN n) := fun W hb => Lib.hid (l_eqF32 _ _ ck ck' (ls.getD k []) W (c2.below hb) (d2.below hb) hle)
      clear c2 d2 hle
      generalize (ls.getD k []).length = m at c1 d1 HE
      go_wp2
      go_region_with (go_at_call 18; refine (HE _ (by repeat (first | exact Below.refl _ _ | refine below_draws ?_ _))).out.mono ?_; rintro e w' ⟨m, rfl, rfl⟩)
      all_goals
        go_wp2
        go_roundw
        case rel => exact ⟨k + 1, _, by omega, by go_num, rfl⟩
        case measure => simp [intOf]; omega
    · go_wp2
      go_ret
      exact ⟨_, rfl, rfl⟩
set_option maxHeartbeats 4000000 in
theorem l_markLL (g cap B0 : Nat) (q : Nat → Nat) (ls : List (List Nat)) (w : World) (h : OwnLL w B0 g q ls) (hn : totL ls ≤ 1048576) :
    Calls Try.prog 39 #[.slice (some ⟨g, 0, none⟩) ls.length cap, .int .i64 1] w fun e w' => e = .returned (.int .i64 (1 + (sumL ls ls.length : Int))) ∧ Turn w w' (SLL ls q) := by
  have HN := Lib.hid hn
  have hl : ls.length ≤ 1048576 := by unfold totL at hn; omega
  clear hn
  have H := Lib.hid h; clear h
  go_enter Try.func39, Try.ntmps39
  go_wp2
  go_loopw [1, 5] (fun s i wr => ∃ k : Nat, k ≤ ls.length ∧ i = .int .i64 k ∧ s = .int .i64 (1 + (sumL ls k : Int)) ∧ Hid (Turn w wr (fun b => ∃ i, i < k ∧ b = q i))) (fun _ i _ => ls.length - (intOf i).toNat)
  case atStart => exact ⟨0, Nat.zero_le _, rfl, rfl, Lib.hid (Turn.refl _ _)⟩
  case round =>
    obtain ⟨k, hk, rfl, rfl, HT⟩ := hrel
    by_cases hlt : k < ls.length
    · obtain ⟨c1, c2, c3⟩ := H.out.2.2.1 k hlt
      have hc : wr.cell? ⟨g, k, none⟩ = some (.slice (some ⟨q k, 0, none⟩) (ls.getD k []).length (ls.getD k []).length) := by
        rw [HT.out.2.1 ⟨g, k, none⟩ H.out.2.1 (by rintro ⟨i, hi, e⟩; have := (H.out.2.2.1 i (by omega)).2.1; simp only at e; omega)]
        exact c1
      have HO : Hid (OwnA wr (some ⟨q k, 0, none⟩) (q k) (ls.getD k [])) := Lib.hid (.inr ⟨rfl, c3.turn HT.out (by rintro ⟨i, hi, e⟩; exact H.out.2.2.2 i k hi hlt e.symm)⟩)
      have HS : Hid (sumL ls (k + 1) = sumL ls k + (ls.getD k []).length) := Lib.hid rfl
      have HMO : Hid (sumL ls (k + 1) ≤ 1048576) := Lib.hid (by have := sumL_mono ls (show k + 1 ≤ ls.length by omega); have := HN.out; unfold totL at this; omega)
      clear c1 c2 c3
      generalize ls.getD k [] = xs at hc HO HS
      go_wp2_with fail
      refine (l_markF32 (some ⟨q k, 0, none⟩) (q k) xs.length (1 + sumL ls k) xs _ HO.out (by have := HS.out; have := HMO.out; omega) (by have := HS.out; have := HMO.out; omega) _ (by omega)).mono ?_
      rintro e w' ⟨rfl, -, t⟩
      have HT2 : Hid (Turn w w' (fun b => ∃ i, i < k + 1 ∧ b = q i)) := Lib.hid ((HT.out.mono (by rintro b ⟨i, hi, e⟩; exact ⟨i, by omega, e⟩)).trans (t.mono (fun b hb => ⟨k, by omega, hb.2⟩)))
      clear t HT HO hc
      go_wp2
      go_roundw
      case rel => exact ⟨k + 1, by omega, by go_num, congrArg (Value.int IntKind.i64) (by have := HS.out; omega), HT2⟩
      case measure => simp [intOf]; omega
    · have hkk : k = ls.length := by omega
      subst hkk
      go_wp2
      go_ret
      exact ⟨rfl, HT.out.mono (fun b hb => hb)⟩
end Go.Proofs.Ytpmjikchlofebaa
