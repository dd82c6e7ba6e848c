/- slices.Repeat of one number. No statement is proved here. -/
import Derived.Test.YtleimkejjpggmaaRosN
import Derived.Laws.CopyOwn
import Derived.Deep.RegionLaw
namespace Go.Proofs.Ytleimkejjpggmaa
open Go Go.RowKit
theorem m_Mul64 (n : Nat) (w : World) (h : n ≤ 16) : Calls Try.prog 91 #[.int .u64 1, .int .u64 n] w fun e w' => e = .returned (.tuple #[.int .u64 0, .int .u64 n]) ∧ w' = w := by
  have hh : n = 0 ∨ n = 1 ∨ n = 2 ∨ n = 3 ∨ n = 4 ∨ n = 5 ∨ n = 6 ∨ n = 7 ∨ n = 8 ∨ n = 9 ∨ n = 10 ∨ n = 11 ∨ n = 12 ∨ n = 13 ∨ n = 14 ∨ n = 15 ∨ n = 16 := by omega
  rcases hh with rfl | rfl | rfl | rfl | rfl | rfl | rfl | rfl | rfl | rfl | rfl | rfl | rfl | rfl | rfl | rfl | rfl
  all_goals
    go_enter Try.func91, Try.ntmps91
    go_wp2
    go_ret2
    exact ⟨rfl, rfl⟩
theorem m_Mul (n : Nat) (w : World) (h : n ≤ 16) : Calls Try.prog 81 #[.int .u64 1, .int .u64 n] w fun e w' => e = .returned (.tuple #[.int .u64 0, .int .u64 n]) ∧ w' = w := by
  go_enter Try.func81, Try.ntmps81
  go_wp2_with fail
  refine (m_Mul64 n _ h).mono ?_
  rintro e w' ⟨rfl, rfl⟩
  go_wp2
  go_ret2
  exact ⟨rfl, rfl⟩
def repC (v n m : Nat) : List Value := List.replicate m (.float .f32 v) ++ List.replicate (n - m) (.float .f32 0)
theorem repC_length {v n m : Nat} (h : m ≤ n) : (repC v n m).length = n := by simp [repC]; omega
theorem repC_at {v n m j : Nat} (h : j < m) : (repC v n m)[j]? = some (.float .f32 v) := by
  unfold repC
  rw [List.getElem?_append_left (by simpa using h)]
  simp [h]
theorem repC_made (v n : Nat) : madeCells #[.float .f32 0] n = (repC v n 0).toArray := by
  apply Array.ext
  · simp [madeCells, repC]
  · intro j h1 h2
    simp [madeCells, repC, Nat.mod_one]
theorem repC_splice {v n m c : Nat} (h : m + c ≤ n) : splice (repC v n m) m (List.replicate c (.float .f32 v)) = repC v n (m + c) := by
  unfold splice repC
  have e1 : (List.replicate m (Value.float .f32 v) ++ List.replicate (n - m) (Value.float .f32 0)).take m = List.replicate m (.float .f32 v) := by
    rw [List.take_append_of_le_length (by simp)]
    simp
  have e2 : (List.replicate m (Value.float .f32 v) ++ List.replicate (n - m) (Value.float .f32 0)).drop (m + (List.replicate c (Value.float .f32 v)).length) = List.replicate (n - (m + c)) (.float .f32 0) := by
    rw [List.length_replicate, List.drop_append]
    simp
    omega
  rw [e1, e2, ← List.append_assoc, List.replicate_append_replicate]
theorem rep_cell {w : World} {g v n m j : Nat} (h : w.heap[g]? = some (.cells (repC v n m).toArray 26 (0, 0))) (hj : j < m) : w.cell? ⟨g, j, none⟩ = some (.float .f32 v) := by
  rw [cell_of_row w g j _ 26 (0, 0) h]
  simpa using repC_at (v := v) (n := n) hj
theorem rep_own {w : World} {g v n : Nat} (h : w.heap[g]? = some (.cells (repC v n n).toArray 26 (0, 0))) : Own w g (List.replicate n v) := by
  refine ⟨(Array.getElem?_eq_some_iff.1 h).1, fun j hj => ⟨?_, ?_⟩⟩
  · rw [List.length_replicate] at hj
    rw [rep_cell h hj]
    simp [List.getD, hj]
  · simp [World.frozen?, h]
set_option maxHeartbeats 8000000 in
set_option maxRecDepth 20000 in
theorem lib_Repeat1 (v n b off cap : Nat) (w : World) (hc : w.cell? ⟨b, off, none⟩ = some (.float .f32 v)) (hb : b < w.heap.size) (h1 : 1 ≤ n) (h2 : n ≤ 16) :
    Calls Try.prog 54 #[.slice (some ⟨b, off, none⟩) 1 cap, .int .i64 n] w fun e w' => e = .returned (.slice (some ⟨w.heap.size, 0, none⟩) n n) ∧ Own w' w.heap.size (List.replicate n v) ∧ Below w.heap.size w w' := by
  have hmk := make_f32 n w (by omega)
  have hsz : (Try.prog.info? 26).map (·.size) = some 1 := by kernel_rfl
  obtain ⟨w1, hw1⟩ : ∃ x, x = w.alloc (.cells (madeCells #[.float .f32 0] n) 26) := ⟨_, rfl⟩
  have HG : Hid (w1.heap[w.heap.size]? = some (.cells (repC v n 0).toArray 26 (0, 0))) := Lib.hid (by rw [hw1, repC_made v n]; show (w.heap.push _)[w.heap.size]? = _; exact Array.getElem?_push_size)
  have HB : Hid (Below w.heap.size w w1) := Lib.hid (by rw [hw1]; exact (Below.refl _ _).alloc (Nat.le_refl _) _)
  have HC : Hid (w1.cell? ⟨b, off, none⟩ = some (.float .f32 v)) := Lib.hid (by rw [HB.out.cell (p := ⟨b, off, none⟩) hb]; exact hc)
  rw [← hw1] at hmk
  clear hw1 hc
  go_enter Try.func54, Try.ntmps54
  go_wp2_with fail
  refine (m_Mul n _ h2).mono ?_
  rintro e w5 ⟨rfl, rfl⟩
  go_wp2_with (first
    | (refine wpList_copy_splice rfl _ _ 22 22 rfl 26 Try.underlying22 hsz (some ⟨_, 0, none⟩) (some ⟨b, off, none⟩) n n 1 cap rfl rfl _ 0 (repC v n 0) 26 HG.out [.float .f32 v] ?c1 ?c2 ?c3 ?c4 _ _ HB.out (Nat.le_refl _) ?_)
    | fail)
  case c1 => show 1 = min 1 n; omega
  case c2 =>
    intro j u hj
    match j, hj with
    | 0, hj => simp at hj; subst hj; exact HC.out
  case c3 => rw [repC_length (by omega)]; simp; omega
  case c4 => intro u hu; simp at hu; subst hu; rfl
  · intro w2 hg2 b2
    have HG2 : Hid (w2.heap[w5.heap.size]? = some (.cells (repC v n 1).toArray 26 (0, 0))) := Lib.hid (by
      have := hg2.out
      rw [show [Value.float FloatKind.f32 v] = List.replicate 1 (.float .f32 v) from rfl, repC_splice (m := 0) (c := 1) (by omega)] at this
      exact this)
    have HB2 := Lib.hid b2
    clear hg2 b2 HG HB HC hmk
    go_wp2
    go_loopw [8] (fun i wr => ∃ m : Nat, 1 ≤ m ∧ m ≤ n ∧ i = .int .i64 m ∧ Hid (wr.heap[w5.heap.size]? = some (.cells (repC v n m).toArray 26 (0, 0))) ∧ Hid (Below w5.heap.size w5 wr)) (fun i _ => n - (intOf i).toNat)
    case atStart => exact ⟨1, Nat.le_refl _, h1, rfl, HG2, HB2⟩
    case round =>
      obtain ⟨m, m1, m2, rfl, HG, HB⟩ := hrel
      by_cases hlt : m < n
      · clear HG2 HB2
        have hne : n ≠ m := by omega
        have HBd : Hid (Below w5.heap.size w5 wr.drew) := Lib.hid (below_draws HB.out 1)
        have HC2 : Hid (∀ j u, (List.replicate (min m (n - m)) (Value.float .f32 v))[j]? = some u → wr.drew.cell? ((⟨w5.heap.size, 0, none⟩ : Addr).add j) = some u) := Lib.hid (fun j u hj => by
          have hlt2 : j < min m (n - m) := by have := (List.getElem?_eq_some_iff.1 hj).1; simpa using this
          rw [List.getElem?_replicate, if_pos hlt2] at hj
          injection hj with hj
          subst hj
          have h0 := rep_cell HG.out (show j < m by omega)
          have e : ((⟨w5.heap.size, 0, none⟩ : Addr).add j) = ⟨w5.heap.size, j, none⟩ := by
            unfold Addr.add
            split
            · rename_i h0; subst h0; rfl
            · simp
          rw [e]
          exact h0)
        have HC3 : Hid (m + (List.replicate (min m (n - m)) (Value.float .f32 v)).length ≤ (repC v n m).length) := Lib.hid (by rw [repC_length m2, List.length_replicate]; omega)
        have HC4 : Hid (∀ u ∈ List.replicate (min m (n - m)) (Value.float .f32 v), u.oneCell' = true) := Lib.hid (fun u hu => by rw [(List.mem_replicate.1 hu).2]; rfl)
        have HSP := Lib.hid (repC_splice (v := v) (n := n) (m := m) (c := min m (n - m)) (by omega))
        go_wp2
        go_region_law (refine step_copy_splice rfl (.tmp 41) (.tmp 44) 22 22 rfl 26 Try.underlying22 hsz (some ⟨w5.heap.size, m, none⟩) (some ⟨w5.heap.size, 0, none⟩) (n - m) (n - m) m n (by simp [Act.eval, Act.put]) (by simp [Act.eval, Act.put]) w5.heap.size m (repC v n m) 26 HG.out (List.replicate (min m (n - m)) (.float .f32 v)) (by rw [List.length_replicate]) (fun _ => ⟨rfl, _, rfl, HC2.out⟩) HC3.out HC4.out _ _ HBd.out (Nat.le_refl _) ?_; intro w9 hg9 b9; have HG9 : Hid (w9.heap[w5.heap.size]? = some (.cells (repC v n (m + min m (n - m))).toArray 26 (0, 0))) := Lib.hid (by rw [← HSP.out]; exact hg9.out); have HB9 := Lib.hid b9; clear hg9 b9)
        all_goals
          have hw : IntKind.i64.wrap ((m : Int) + ((min m (n - m) : Nat) : Int)) = ((m + min m (n - m) : Nat) : Int) := by rw [IntWalk.i64_in _ (by omega)]; omega
          obtain ⟨c, hcc⟩ : ∃ c, c = min m (n - m) := ⟨_, rfl⟩
          rw [← hcc] at hw HG9 ⊢
          have hc1 : m + c ≤ n := by omega
          have hc2 : 1 ≤ c := by omega
          clear hcc HBd HC2 HC3 HC4 HSP HG HB
          go_simp
          go_wp2
          go_roundw
          case rel => exact ⟨m + c, by omega, hc1, by go_num, HG9, HB9⟩
          case measure => simp [intOf]; omega
      · have hmn : m = n := by omega
        subst hmn
        go_wp2
        go_ret
        exact ⟨rfl, rep_own HG.out, HB.out⟩
end Go.Proofs.Ytleimkejjpggmaa
