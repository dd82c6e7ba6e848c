/- Crossings of multiples of speeds and a tower's rate: mathematics; lists of pairs that grow; the program's checks. No statement is proved here. -/
import Derived.Test.YtpmjikchlofebaaTowG
import Derived.Test.YtpmjikchlofebaaApp
import Derived.Test.YtpmjikchlofebaaLoI
import Derived.Test.YtpmjikchlofebaaFsure
import Derived.Maps.AppendAt
namespace Go.Proofs.Ytpmjikchlofebaa
open Go Go.RowKit
def mulP (ms : List Int) (k : Nat) : Bool := decide (1 ≤ ms.getD k 0 ∧ ms.getD k 0 ≤ 12)
def croC (m d s : Nat) (ms : List Int) (ss : List Nat) : Bool := twrO m d s && (decide (ms.length ≤ 32) && (alls (mulP ms) ms.length && (decide (ss.length ≤ 64) && fins ss ss.length)))
/-- a multiple of a speed -/
def croV (ms : List Int) (ss : List Nat) (i k : Nat) : Nat := fop .mul .f32 (floatOfInt .f32 (ms.getD i 0)) (ss.getD k 0)
def croB (r : Nat) (ms : List Int) (ss : List Nat) (i k : Nat) : Bool := lss32 (croV ms ss i k) r != lss32 (croV ms ss i (k + 1)) r
def croRow (r : Nat) (ms : List Int) (ss : List Nat) (i : Nat) : Nat → List (Int × Int)
  | 0 => []
  | k + 1 => croRow r ms ss i k ++ (if croB r ms ss i k then [((i : Int), (k : Int))] else [])
def croAll (r : Nat) (ms : List Int) (ss : List Nat) : Nat → List (Int × Int)
  | 0 => []
  | i + 1 => croAll r ms ss i ++ croRow r ms ss i (ss.length - 1)
def croL (m d s : Nat) (ms : List Int) (ss : List Nat) : List (Int × Int) := if croC m d s ms ss then croAll (twrV m s) ms ss ms.length else []
theorem croRow_le (r : Nat) (ms : List Int) (ss : List Nat) (i : Nat) : ∀ k, (croRow r ms ss i k).length ≤ k := by
  intro k; induction k with
  | zero => simp [croRow]
  | succ k ih => simp only [croRow, List.length_append]; split <;> simp <;> omega
theorem croAll_le (r : Nat) (ms : List Int) (ss : List Nat) : ∀ i, (croAll r ms ss i).length ≤ i * (ss.length - 1) := by
  intro i; induction i with
  | zero => simp [croAll]
  | succ i ih => have := croRow_le r ms ss i (ss.length - 1); simp only [croAll, List.length_append, Nat.add_mul, Nat.one_mul]; omega
theorem cro_le {r : Nat} {ms : List Int} {ss : List Nat} {i k : Nat} (hi : i < ms.length) (hm : ms.length ≤ 32) (hs : ss.length ≤ 64) (hk : k + 1 < ss.length) : (croAll r ms ss i ++ croRow r ms ss i k).length ≤ 2016 := by
  have h1 := croAll_le r ms ss i
  have h2 := croRow_le r ms ss i k
  have h3 : i * (ss.length - 1) ≤ 31 * 63 := Nat.mul_le_mul (by omega) (by omega)
  rw [List.length_append]
  omega
theorem croC_t {m d s : Nat} {ms : List Int} {ss : List Nat} (h : twrO m d s = false) : croC m d s ms ss = false := by unfold croC; rw [h]; rfl
theorem croC_n {m d s : Nat} {ms : List Int} {ss : List Nat} (h : ¬ ms.length ≤ 32) : croC m d s ms ss = false := by unfold croC; rw [decide_eq_false h]; simp
theorem croC_m {m d s : Nat} {ms : List Int} {ss : List Nat} {k : Nat} (h : alls (mulP ms) k = false) (hk : k ≤ ms.length) : croC m d s ms ss = false := by unfold croC; rw [alls_no h hk]; simp
theorem croC_s {m d s : Nat} {ms : List Int} {ss : List Nat} (h : ¬ ss.length ≤ 64) : croC m d s ms ss = false := by unfold croC; rw [decide_eq_false h]; simp
theorem croC_f {m d s : Nat} {ms : List Int} {ss : List Nat} {k : Nat} (h : fins ss k = false) (hk : k ≤ ss.length) : croC m d s ms ss = false := by unfold croC; rw [fins_no h hk]; simp
theorem croC_yes {m d s : Nat} {ms : List Int} {ss : List Nat} (h1 : twrO m d s = true) (h2 : ms.length ≤ 32) (h3 : alls (mulP ms) ms.length = true) (h4 : ss.length ≤ 64) (h5 : fins ss ss.length = true) : croC m d s ms ss = true := by
  unfold croC; rw [h1, decide_eq_true h2, h3, decide_eq_true h4, h5]; rfl
theorem croL_no {m d s : Nat} {ms : List Int} {ss : List Nat} (h : croC m d s ms ss = false) : croL m d s ms ss = [] := by unfold croL; rw [h]; rfl
theorem croL_yes {m d s : Nat} {ms : List Int} {ss : List Nat} (h : croC m d s ms ss = true) : croL m d s ms ss = croAll (twrV m s) ms ss ms.length := by unfold croL; rw [h]; rfl
theorem croL_few (m d s : Nat) (ms : List Int) (ss : List Nat) : (croL m d s ms ss).length ≤ 2048 := by
  cases h : croC m d s ms ss
  · rw [croL_no h]; simp
  · rw [croL_yes h]
    unfold croC at h
    simp only [Bool.and_eq_true, decide_eq_true_eq] at h
    have h1 := croAll_le (twrV m s) ms ss ms.length
    have h3 : ms.length * (ss.length - 1) ≤ 32 * 63 := Nat.mul_le_mul h.2.1 (by omega)
    omega
/-- a multiple is a number -/
theorem mul_nums : ∀ n : Fin 13, fin .f32 (floatOfInt .f32 (n.val : Int)) = true := by decide +kernel
theorem mulP_num {ms : List Int} {k : Nat} (h : mulP ms k = true) : fin .f32 (floatOfInt .f32 (ms.getD k 0)) = true := by
  unfold mulP at h
  have h := of_decide_eq_true h
  generalize ms.getD k 0 = z at h ⊢
  obtain ⟨n, rfl⟩ : ∃ n : Nat, z = n := ⟨z.toNat, by omega⟩
  exact mul_nums ⟨n, by omega⟩
theorem mul_fins {k : FloatKind} {x y : Nat} (hx : fin k x = true) (hy : fin k y = true) : isn k (fop .mul k x y) = false := by
  obtain ⟨s, m, i, d1⟩ := number_of_fin hx
  obtain ⟨t, n, j, d2⟩ := number_of_fin hy
  have e : ∃ s' m' e', floatBits .mul k x y = some (k.encode (.number s' m' e')) := by
    unfold floatBits Ieee.Format.mul
    rw [d1, d2]
    exact ⟨_, _, _, rfl⟩
  obtain ⟨s', m', e', e⟩ := e
  unfold fop
  rw [e, Option.getD_some, isn_canon]
  exact isn_encode rfl
theorem croV_num {ms : List Int} {ss : List Nat} {i k : Nat} (h : mulP ms i = true) (hf : fin .f32 (ss.getD k 0) = true) : isn .f32 (croV ms ss i k) = false := mul_fins (mulP_num h) hf
theorem croV_sure {ms : List Int} {ss : List Nat} {i k : Nat} (h : mulP ms i = true) (hf : fin .f32 (ss.getD k 0) = true) : (∀ w, fopV .mul .f32 (floatOfInt .f32 (ms.getD i 0)) (ss.getD k 0) w = croV ms ss i k) ∧ fopN .mul .f32 (floatOfInt .f32 (ms.getD i 0)) (ss.getD k 0) = 0 := fop_sure (croV_num h hf)
theorem fins_at {xs : List Nat} {n k : Nat} (h : fins xs n = true) (hk : k < n) : fin .f32 (xs.getD k 0) = true := by
  induction n with
  | zero => omega
  | succ n ih =>
    simp only [fins, Bool.and_eq_true] at h
    by_cases e : k = n
    · rw [e]; exact h.2
    · exact ih h.1 (by omega)
/-- the rate, as both sides have it -/
theorem rate_exact {m d s r : Nat} (h : twrO m d s = true) (hr : canon .f32 r = twrV m s) : r = twrV m s ∧ fin .f32 r = true := by
  unfold twrO at h
  rw [Bool.and_eq_true] at h
  have hf : fin .f32 r = true := by rw [← fin_canon, hr]; exact h.2
  have hn : isn .f32 r = false := isn_of_fin hf
  exact ⟨by rw [← hr, canon_of_not hn], hf⟩
theorem rateR {m d s : Nat} (h : twrO m d s = true) : twrR m d s = twrV m s := by
  unfold twrO at h
  rw [Bool.and_eq_true] at h
  unfold twrR onlyN
  rw [h.1, h.2]; rfl
theorem croB_geq {r : Nat} {ms : List Int} {ss : List Nat} {i k : Nat} (hr : fin .f32 r = true) (h1 : isn .f32 (croV ms ss i k) = false) (h2 : isn .f32 (croV ms ss i (k + 1)) = false) : (geq32 (croV ms ss i k) r != geq32 (croV ms ss i (k + 1)) r) = croB r ms ss i k := by
  unfold croB
  rw [lss_not_geq h1 (isn_of_fin hr), lss_not_geq h2 (isn_of_fin hr)]
  cases geq32 (croV ms ss i k) r <;> cases geq32 (croV ms ss i (k + 1)) r <;> rfl
/-- a list of pairs of the call's own, that may grow -/
def rowV (q : Nat → Nat) (n : Nat) : List Value := (List.range n).map fun k => .slice (some ⟨q k, 0, none⟩) 2 2
def GrII (w : World) (B0 : Nat) (v : Value) (q : Nat → Nat) (vs : List (Int × Int)) : Prop :=
  w.ownsRow B0 60 1 v vs.length (rowV q vs.length) ∧ (∀ k, k < vs.length → B0 ≤ q k ∧ v.ownBlock ≠ some (q k) ∧ OwnI w (q k) (prL (vs.getD k (0, 0)))) ∧ ∀ i j, i < j → j < vs.length → q i ≠ q j
theorem i64s_info : (Try.prog.info? 60).map (fun i => (i.zero, i.size, i.bytes)) = some (some (.slice none 0 0), 1, 24) := by kernel_rfl
theorem GrII.made (w : World) (B0 cap : Nat) (cur : Array Value) (q : Nat → Nat) (hb : B0 ≤ w.heap.size) (hm : cap ≤ maxLen) (hs : cur.size = cap) : GrII (w.alloc (.cells cur 60)) B0 (.slice (some ⟨w.heap.size, 0, none⟩) 0 cap) q [] :=
  ⟨World.ownsRow_made w cur cap hb hm (by rw [hs, Nat.mul_one]), fun k hk => absurd hk (Nat.not_lt_zero k), fun i j _ hj => absurd hj (Nat.not_lt_zero j)⟩
theorem OwnI.of_block {w w' : World} {B : Nat} {xs : List Int} (h : OwnI w B xs) (hlt : B < w'.heap.size) (hb : w'.heap[B]? = w.heap[B]?) : OwnI w' B xs :=
  ⟨hlt, fun j hj => ⟨by rw [World.cell?_of_block (a := ⟨B, j, none⟩) hb]; exact (h.2 j hj).1, by rw [World.frozen?_of_block (a := ⟨B, j, none⟩) hb]; exact (h.2 j hj).2⟩⟩
theorem GrII.below {w w' : World} {B0 : Nat} {v : Value} {q : Nat → Nat} {vs : List (Int × Int)} (h : GrII w B0 v q vs) (hb : Below w.heap.size w w') : GrII w' B0 v q vs := by
  refine ⟨⟨h.1.1, ?_⟩, fun k hk => ⟨(h.2.1 k hk).1, (h.2.1 k hk).2.1, (h.2.1 k hk).2.2.below hb⟩, h.2.2⟩
  rcases h.1.2 with hn | ⟨g, cap, cur, rfl, hbg, hgg, rest⟩
  · exact .inl hn
  · refine .inr ⟨g, cap, cur, rfl, hbg, ?_, rest⟩
    rw [hb.block g (Array.getElem?_eq_some_iff.1 hgg).1]
    exact hgg
/-- where the new pair lies -/
def putQ (q : Nat → Nat) (n b : Nat) : Nat → Nat := fun k => if k < n then q k else b
theorem rowV_put (q : Nat → Nat) (n b : Nat) : rowV q n ++ [.slice (some ⟨b, 0, none⟩) 2 2] = rowV (putQ q n b) (n + 1) := by
  unfold rowV putQ
  rw [List.range_succ, List.map_append]
  congr 1
  · apply List.map_congr_left
    intro k hk
    rw [if_pos (List.mem_range.1 hk)]
  · simp
theorem GrII.next {w0 wr w1 : World} {B0 : Nat} {x y : Int} {v v' : Value} {q : Nat → Nat} {vs : List (Int × Int)} {o : Obj} (h : GrII wr B0 v q vs) (hb : Below w0.heap.size w0 wr) (hB : w0.heap.size ≤ B0) (hB2 : B0 ≤ wr.heap.size)
    (ho : w1.ownsRow B0 60 1 v' (vs.length + 1) (rowV q vs.length ++ [.slice (some ⟨wr.heap.size, 0, none⟩) 2 2])) (hg : ((wr.alloc (.cells #[.int .i64 x, .int .i64 y] 2)).alloc o).grownBy w1 v.ownBlock)
    (hat : v'.ownBlock = v.ownBlock ∨ v'.ownBlock = some (wr.heap.size + 1 + 1)) :
    GrII w1 B0 v' (putQ q vs.length wr.heap.size) (vs ++ [(x, y)]) ∧ Below w0.heap.size w0 w1 := by
  have hlt := World.ownsRow.lt h.1
  have hown : ∀ b, b < wr.heap.size → v.ownBlock ≠ some b → w1.heap[b]? = wr.heap[b]? := by
    intro b hbl hne
    rw [hg.block b (by simp; omega) (fun e => hne e.symm)]
    have b1 : Below wr.heap.size wr ((wr.alloc (.cells #[.int .i64 x, .int .i64 y] 2)).alloc o) := ((Below.refl _ _).alloc (Nat.le_refl _) _).alloc (by simp) _
    exact b1.block b hbl
  have hsz : wr.heap.size + 2 ≤ w1.heap.size := by have := hg.size; simp at this; omega
  have hne2 : v'.ownBlock ≠ some wr.heap.size := by
    rcases hat with e | e
    · rw [e]; intro e2; have := (hlt _ e2).2; omega
    · rw [e]; intro e2; simp at e2; omega
  refine ⟨⟨?_, ?_, ?_⟩, ?_⟩
  · rw [rowV_put] at ho
    simpa using ho
  · intro k hk
    simp at hk
    unfold putQ
    by_cases e : k < vs.length
    · obtain ⟨c1, c2, c3⟩ := h.2.1 k e
      rw [if_pos e]
      refine ⟨c1, ?_, ?_⟩
      · rcases hat with e3 | e3
        · rw [e3]; exact c2
        · rw [e3]; intro e4; have := c3.1; simp at e4; omega
      · have e5 : (vs ++ [(x, y)]).getD k (0, 0) = vs.getD k (0, 0) := by
          rw [List.getD_eq_getElem?_getD, List.getD_eq_getElem?_getD, List.getElem?_append, if_pos e]
        rw [e5]
        exact c3.of_block (by have := c3.1; omega) (hown _ c3.1 c2)
    · have e6 : k = vs.length := by omega
      rw [if_neg e]
      refine ⟨hB2, hne2, by omega, fun j hj => ?_⟩
      have e5 : (vs ++ [(x, y)]).getD k (0, 0) = (x, y) := by
        rw [List.getD_eq_getElem?_getD, List.getElem?_append, if_neg e, e6]; simp
      have hbk : w1.heap[wr.heap.size]? = some (.cells #[.int .i64 x, .int .i64 y] 2) := by
        rw [hg.block wr.heap.size (by simp; omega) (fun e => by have := (hlt _ e.symm).2; omega)]
        have b2 : Below (wr.heap.size + 1) (wr.alloc (.cells #[.int .i64 x, .int .i64 y] 2)) ((wr.alloc (.cells #[.int .i64 x, .int .i64 y] 2)).alloc o) := (Below.refl _ _).alloc (by simp) _
        rw [b2.block wr.heap.size (by omega)]
        exact heap_alloc_new wr _
      rw [e5] at hj ⊢
      have hj2 : j = 0 ∨ j = 1 := by simp [prL] at hj; omega
      constructor
      · unfold World.cell?
        rw [show (⟨wr.heap.size, j, none⟩ : Addr).block = wr.heap.size from rfl, hbk]
        rcases hj2 with rfl | rfl <;> simp [prL]
      · unfold World.frozen?
        rw [show (⟨wr.heap.size, j, none⟩ : Addr).block = wr.heap.size from rfl, hbk]
        simp
  · intro i j hij hj
    simp at hj
    unfold putQ
    by_cases e : j < vs.length
    · rw [if_pos e, if_pos (by omega)]; exact h.2.2 i j hij e
    · rw [if_neg e, if_pos (by omega)]
      have := (h.2.1 i (by omega)).2.2.1
      omega
  · exact ((hb.alloc hb.size _).alloc (by have := hb.size; simp; omega) _).grown hg (by have := hb.size; simp; omega) (fun k hk => by have := (hlt k hk).1; omega)
/-- what such a list is -/
theorem GrII.own {w : World} {B0 : Nat} {v : Value} {q : Nat → Nat} {vs : List (Int × Int)} (h : GrII w B0 v q vs) : ∃ A cap g, v = .slice A vs.length cap ∧ OwnII w B0 A g q vs := by
  rcases h.1.2 with ⟨rfl, h0⟩ | ⟨g, cap, cur, rfl, hbg, hgg, hnc, hcm, hcs, htake⟩
  · refine ⟨none, 0, 0, by rw [h0], .inl (List.eq_nil_of_length_eq_zero h0)⟩
  · refine ⟨_, cap, g, rfl, .inr ⟨rfl, hbg, (Array.getElem?_eq_some_iff.1 hgg).1, fun j hj => ?_, h.2.2⟩⟩
    obtain ⟨c1, c2, c3⟩ := h.2.1 j hj
    refine ⟨?_, c1, fun e => c2 (by rw [e]; rfl), c3⟩
    have h1 : cur.toList[j]? = some (.slice (some ⟨q j, 0, none⟩) 2 2) := by
      have h2 : (cur.toList.take (vs.length * 1))[j]? = (rowV q vs.length)[j]? := by rw [htake]
      rw [List.getElem?_take, if_pos (by omega)] at h2
      rw [h2]
      simp [rowV, hj]
    unfold World.cell?
    rw [show (⟨g, j, none⟩ : Addr).block = g from rfl, hgg]
    simpa using h1
theorem i_crosses (r a b : Nat) (w : World) :
    Calls Try.prog 116 #[.float .f32 r, .float .f32 a, .float .f32 b] w fun e w' => e = .returned (.bool (lss32 a r != lss32 b r)) ∧ w' = w := by
  go_enter Try.func116, Try.ntmps116
  go_wp2
  go_ret
  exact ⟨rfl, rfl⟩
theorem i_notMultiple (n : Int) (w : World) :
    Calls Try.prog 114 #[.int .i64 n] w fun e w' => e = .returned (.bool (!decide (1 ≤ n ∧ n ≤ 12))) ∧ w' = w := by
  obtain ⟨p, hp⟩ : ∃ p, p = decide (1 ≤ n ∧ n ≤ 12) := ⟨_, rfl⟩
  rw [← hp]
  by_cases h1 : n < 1
  · obtain rfl : p = false := hp.trans (decide_eq_false (by omega))
    clear hp
    go_enter Try.func114, Try.ntmps114
    go_wp2
    go_ret
    exact ⟨rfl, rfl⟩
  · by_cases h2 : 12 < n
    · obtain rfl : p = false := hp.trans (decide_eq_false (by omega))
      clear hp
      go_enter Try.func114, Try.ntmps114
      go_wp2
      go_ret
      exact ⟨rfl, rfl⟩
    · obtain rfl : p = true := hp.trans (decide_eq_true (by omega))
      clear hp
      go_enter Try.func114, Try.ntmps114
      go_wp2
      go_ret
      exact ⟨rfl, rfl⟩
theorem lib_IndexFunc_notMultiple (A : Option Addr) (cap : Nat) (ms : List Int) (w : World) (h : FlI w A ms) (hn : ms.length ≤ 1048576) :
    Calls Try.prog 152 #[.slice A ms.length cap, .func (.func 114) #[] #[]] w fun e w' => ∃ i : Int, e = .returned (.int .i64 i) ∧ decide (0 ≤ i) = !alls (mulP ms) ms.length ∧ w' = w := by
  go_enter Try.func152, Try.ntmps152
  go_wp2
  go_loopw [8] (fun i wr => ∃ k : Nat, k ≤ ms.length ∧ i = .int .i64 k ∧ Hid (alls (mulP ms) k = true) ∧ wr = w) (fun i _ => ms.length - (intOf i).toNat)
  case atStart => exact ⟨0, Nat.zero_le _, rfl, Lib.hid rfl, rfl⟩
  case round =>
    obtain ⟨k, hk, rfl, hr, rfl⟩ := hrel
    by_cases hlt : k < ms.length
    · obtain ⟨b, off, rfl, hb, hc⟩ := h.at_ hlt
      have HB := Lib.hid h; clear h
      have HS : Hid (alls (mulP ms) (k + 1) = decide (1 ≤ ms.getD k 0 ∧ ms.getD k 0 ≤ 12)) := Lib.hid (by simp only [alls]; rw [hr.out, Bool.true_and]; rfl)
      generalize ms.getD k 0 = x at hc HS
      go_wp2_with fail
      refine (i_notMultiple _ _).mono ?_
      rintro e w' ⟨rfl, rfl⟩
      cases hp : decide (1 ≤ x ∧ x ≤ 12)
      · have HN : Hid (alls (mulP ms) ms.length = false) := Lib.hid (alls_no (k := k + 1) (by rw [HS.out, hp]) (by omega))
        clear hp
        go_wp2
        go_ret
        exact ⟨_, rfl, by rw [HN.out]; simp, rfl⟩
      · have HS2 : Hid (alls (mulP ms) (k + 1) = true) := Lib.hid (by rw [HS.out, hp])
        clear hp
        go_wp2
        go_roundw
        case rel => exact ⟨k + 1, by omega, by go_num, HS2, by first | rfl | trivial⟩
        case measure => simp [intOf]; omega
    · have hkk : k = ms.length := by omega
      subst hkk
      have HB := Lib.hid h; clear h
      go_wp2
      go_ret
      exact ⟨_, rfl, by rw [hr.out]; rfl, rfl⟩
theorem i_hasNoMultiple (A : Option Addr) (cap : Nat) (ms : List Int) (w : World) (h : FlI w A ms) (hn : ms.length ≤ 1048576) :
    Calls Try.prog 113 #[.slice A ms.length cap, .func (.func 114) #[] #[]] w fun e w' => e = .returned (.bool (!alls (mulP ms) ms.length)) ∧ w' = w := by
  have H := Lib.hid h; clear h
  go_enter Try.func113, Try.ntmps113
  go_wp2_with fail
  refine (lib_IndexFunc_notMultiple A cap ms _ H.out hn).mono ?_
  rintro e w' ⟨i, rfl, hi, rfl⟩
  have HI := Lib.hid hi; clear hi
  go_wp2
  go_ret
  exact ⟨by rw [← HI.out]; rfl, rfl⟩
end Go.Proofs.Ytpmjikchlofebaa
