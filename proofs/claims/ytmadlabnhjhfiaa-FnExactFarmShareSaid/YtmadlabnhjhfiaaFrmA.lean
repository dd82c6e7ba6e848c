/- Lists that are copied and joined: slices.Clone, slices.Concat. No statement is proved here. -/
import Derived.Test.YtmadlabnhjhfiaaFrmV
import Derived.Test.YtmadlabnhjhfiaaMarkR
import Derived.Test.YtmadlabnhjhfiaaApp
import Derived.Lib.SliceRun
import Derived.Lib.AppendZeros
namespace Go.Proofs.Ytmadlabnhjhfiaa
open Go Go.RowKit
theorem Fl.news {w : World} {b off : Nat} {xs : List Nat} (h : Fl w (some ⟨b, off, none⟩) xs) : ∀ j u, (xs.map (Value.float .f32))[j]? = some u → w.cell? ((⟨b, off, none⟩ : Addr).add j) = some u := by
  intro j u hj
  simp only [List.getElem?_map, Option.map_eq_some_iff] at hj
  obtain ⟨x, hx, rfl⟩ := hj
  have hlt : j < xs.length := (List.getElem?_eq_some_iff.1 hx).1
  have hc := h.same rfl hlt
  have e : xs.getD j 0 = x := by rw [List.getD_eq_getElem?_getD, hx]; rfl
  rw [e] at hc
  unfold Addr.add
  split
  · rename_i h0; subst h0; exact hc
  · exact hc
theorem oneF (xs : List Nat) : ∀ u ∈ xs.map (Value.float .f32), u.oneCell' = true := by
  intro u hu
  simp only [List.mem_map] at hu
  obtain ⟨x, -, rfl⟩ := hu
  rfl
/-- a list that grew by another one -/
theorem Gr.more {w0 wr w1 : World} {B0 m : Nat} {v v' : Value} {xs ys : List Nat} (h : Gr wr B0 v xs) (hb : Below w0.heap.size w0 wr) (hB : w0.heap.size ≤ B0) (hm : m = ys.length)
    (ho : w1.ownsRow B0 22 1 v' (xs.length + m) (xs.map (Value.float .f32) ++ ys.map (Value.float .f32))) (hg : wr.grownBy w1 v.ownBlock) : Gr w1 B0 v' (xs ++ ys) ∧ Below w0.heap.size w0 w1 := by
  subst hm
  refine ⟨by unfold Gr; simpa using ho, ?_⟩
  have hlt := World.ownsRow.lt h
  exact hb.grown hg hb.size (fun k hk => by have := (hlt k hk).1; omega)
set_option maxHeartbeats 4000000 in
set_option maxRecDepth 100000 in
theorem lib_Clone (A : Option Addr) (cap : Nat) (xs : List Nat) (w : World) (h : Fl w A xs) (hn : xs.length ≤ 1048576) (h1 : 1 ≤ xs.length) :
    Calls Try.prog 174 #[.slice A xs.length cap] w fun e w' => ∃ (A' : Option Addr) (c b : Nat), e = .returned (.slice A' xs.length c) ∧ OwnO w' w.heap.size A' b xs ∧ Below w.heap.size w w' := by
  obtain ⟨i0, hi, hz0, hz1, hz2⟩ := info_parts f32_info
  obtain ⟨b, off, rfl, -, -⟩ := h.at_ (show 0 < xs.length by omega)
  have HF := Lib.hid h; clear h
  have HN := Lib.hid hn
  have HG : Hid (Gr (w.alloc (.cells #[] 22)) w.heap.size (.slice (some ⟨w.heap.size, 0, none⟩) 0 0) []) := Lib.hid (Gr.made w w.heap.size 0 #[] (Nat.le_refl _) (Nat.zero_le _) rfl)
  have heq : ∀ W : World, (binOp .eql 32 (.slice (some ⟨b, off, none⟩) xs.length cap) (.slice none 0 0)).run Try.prog W = .ok (.bool false) W := fun W => Go.Lib.run_eql_slice_nil W _ _ _ _ _ _ _ Try.underlying32
  go_enter Try.func174, Try.ntmps174
  go_wp2_with (first
    | (at_builtin; refine wpList_append_own _ rfl _ _ 32 rfl w.heap.size 22 i0 (.float .f32 0) 1 4 Try.underlying32 hi hz0 hz1 hz2 rfl (by decide) _ _ _ rfl HG.out ⟨b, off, none⟩ xs.length cap (xs.map (Value.float .f32)) rfl ?c1 ?c2 ?c3 ?c4 ?c5 ?c6 ?_)
    | fail)
  case c1 => simp
  case c2 => exact (HF.out.below ((Below.refl _ _).alloc (Nat.le_refl _) _)).news
  case c3 => exact oneF xs
  case c4 => have := HN.out; unfold maxLen; simp; omega
  case c5 => have := HN.out; simp; omega
  case c6 => simp
  · intro v' w7 hown' hgrow _
    obtain ⟨g2, b2⟩ := Gr.more (w0 := w) (B0 := w.heap.size) (m := xs.length) HG.out ((Below.refl _ _).alloc (Nat.le_refl _) _) (Nat.le_refl _) rfl (by simpa using hown') hgrow
    obtain ⟨A', c, g, rfl, ho⟩ := Gr.own g2
    have HO := Lib.hid ho
    have HB := Lib.hid b2
    clear hown' hgrow g2 b2 ho
    rw [List.nil_append] at HO
    go_wp2
    go_ret
    exact ⟨A', c, g, by simp, HO.out, HB.out⟩
end Go.Proofs.Ytmadlabnhjhfiaa
