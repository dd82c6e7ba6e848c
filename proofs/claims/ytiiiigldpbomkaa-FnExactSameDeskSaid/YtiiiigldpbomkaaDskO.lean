/- A desk that came in, all of it. No statement is proved here. -/
import Derived.Test.YtiiiigldpbomkaaLawSmD
import Derived.Test.YtiiiigldpbomkaaOpenK
import Derived.Test.YtiiiigldpbomkaaRotW
import Derived.WalkKit
import Derived.OpenShut
namespace Go.Proofs.Ytiiiigldpbomkaa
open Go Go.RowKit Go.ChangeShapes Go.WideShapes
/-- a desk lies there -/
def IsDesk (w : World) (v : Value) : Prop :=
  ∃ (A L D S : Option Addr) (ca cl cd n cs : Nat) (c : Int) (hub tip : Nat) (a l d s : List Nat) (e0 e1 e2 e3 : Nat) (p0 p1 p2 p3 p4 p5 p6 p7 : Nat) (st : Int) (sp pi en : Nat) (X Y : Option Addr) (cx cy : Nat) (fx fy : List Nat) (fr fd fs : Nat), v = .agg #[.slice A a.length ca, .slice L l.length cl, .slice D d.length cd, .slice S n cs, .int .i64 c, .float .f32 hub, .float .f32 tip, .float .f32 e0, .float .f32 e1, .float .f32 e2, .float .f32 e3, .float .f32 p0, .float .f32 p1, .float .f32 p2, .float .f32 p3, .float .f32 p4, .float .f32 p5, .float .f32 p6, .float .f32 p7, .int .i64 st, .float .f32 sp, .float .f32 pi, .float .f32 en, .slice X fx.length cx, .slice Y fy.length cy, .float .f32 fr, .float .f32 fd, .float .f32 fs] ∧ Rt w A L D S a l d s ∧ s.length = n * 3 ∧ a.length ≤ 9223372036854775807 ∧ l.length ≤ 9223372036854775807 ∧ d.length ≤ 9223372036854775807 ∧ n ≤ 9223372036854775807 ∧ Rs w X Y fx fy ∧ fx.length ≤ 9223372036854775807 ∧ fy.length ≤ 9223372036854775807 ∧ WDsk hub tip a l d s e0 e1 e2 e3 p0 p1 p2 p3 p4 p5 p6 p7 st sp pi en fx fy fr fd fs
set_option maxRecDepth 100000 in
theorem deskOpen {H : Type} {enc : TypeId × Value → H} {W : World} {base : Nat} {spare : Nat → Bool} {held : Bool} {r : Reach} {b0 : Nat} {v0 : Value} {d0 : DataW H} {p0 : List MemPlace} (hv : Value.okWide Try.prog W r b0 95 v0) (h0 : DataW.Trod enc Try.prog W base spare held 95 v0 d0 p0) : IsDesk W v0 := by
  obtain ⟨c0x0, c1x0, c2x0, c3x0, c4x0, c5x0, c6x0, c7x0, c8x0, c9x0, c10x0, c11x0, c12x0, c13x0, c14x0, c15x0, c16x0, c17x0, c18x0, c19x0, c20x0, c21x0, c22x0, c23x0, c24x0, c25x0, c26x0, c27x0, mm0, yr0, ya0, yd0, yf0, rfl, tr0, ta0, td0, tf0⟩ := open_desk Try.underlying95 (by kernel_rfl) (by kernel_rfl : Try.prog.cellsOf 95 = 28) hv h0
  obtain ⟨mr0, yP0, yS0, yC0, yH0, yT0, tfp0, tfs0, tfc0, tfh0, tft0⟩ := part_rotor Try.underlying41 (by kernel_rfl) tr0
  obtain ⟨mp0, yA0, yL0, yD0, tfa0, tfl0, tfd0⟩ := open_cells3 Try.underlying24 (by kernel_rfl) tfp0
  obtain ⟨A0, ca0, xa0, rfl, ma0, wa0, na0⟩ := open_f32sW Try.underlying22 Try.underlying25 (by kernel_rfl) tfa0
  obtain ⟨L0, cl0, xl0, rfl, ml0, wl0, nl0⟩ := open_f32sW Try.underlying22 Try.underlying25 (by kernel_rfl) tfl0
  obtain ⟨D0, cd0, xd0, rfl, md0, wd0, nd0⟩ := open_f32sW Try.underlying22 Try.underlying25 (by kernel_rfl) tfd0
  obtain ⟨S0, n0, cs0, xs0, rfl, ms0, es0, ws0, ns0⟩ := open_rows3W Try.underlying39 Try.underlying43 (by kernel_rfl) (by kernel_rfl) (by intro j f hj; rcases j with _ | _ | _ | j <;> simp at hj <;> subst hj <;> exact Try.underlying25) tfs0
  obtain ⟨c0, hc0, wc0⟩ := trod_int1 Try.underlying2 tfc0
  cases hc0
  obtain ⟨hb0, ehb0, whb0⟩ := trod_float Try.underlying25 tfh0
  cases ehb0
  obtain ⟨tp0, etp0, wtp0⟩ := trod_float Try.underlying25 tft0
  cases etp0
  obtain ⟨mq0, yq0, yq1, yq2, yq3, tq0, tq1, tq2, tq3⟩ := part_air Try.underlying53 (by kernel_rfl) ta0
  obtain ⟨ea0x0, eea0x0, wea0x0⟩ := trod_float Try.underlying25 tq0
  cases eea0x0
  obtain ⟨ea1x0, eea1x0, wea1x0⟩ := trod_float Try.underlying25 tq1
  cases eea1x0
  obtain ⟨ea2x0, eea2x0, wea2x0⟩ := trod_float Try.underlying25 tq2
  cases eea2x0
  obtain ⟨ea3x0, eea3x0, wea3x0⟩ := trod_float Try.underlying25 tq3
  cases eea3x0
  obtain ⟨mv0, yv0, yv1, yv2, yv3, yv4, tv0, tv1, tv2, tv3, tv4⟩ := part_drive Try.underlying93 (by kernel_rfl) td0
  obtain ⟨p0x0, p1x0, p2x0, p3x0, p4x0, p5x0, p6x0, p7x0, epl0, wpl0⟩ := cells_plant Try.underlying91 (by kernel_rfl) (by intro j f hj; rcases j with _ | _ | _ | _ | _ | _ | _ | _ | j <;> simp at hj <;> subst hj <;> exact Try.underlying25) tv0
  cases epl0
  obtain ⟨st0, est0, wst0⟩ := trod_int1 Try.underlying2 tv1
  cases est0
  obtain ⟨sp0, esp0, wsp0⟩ := trod_float Try.underlying25 tv2
  cases esp0
  obtain ⟨pi0, epi0, wpi0⟩ := trod_float Try.underlying25 tv3
  cases epi0
  obtain ⟨en0, een0, wen0⟩ := trod_float Try.underlying25 tv4
  cases een0
  obtain ⟨mf0, yg0, yg1, yg2, yg3, yg4, tg0, tg1, tg2, tg3, tg4⟩ := part_farm Try.underlying77 (by kernel_rfl) tf0
  obtain ⟨X0, cx0, fx0, rfl, mx0, wx0, nx0⟩ := open_f32sW Try.underlying22 Try.underlying25 (by kernel_rfl) tg0
  obtain ⟨Y0, cy0, fy0, rfl, my0, wy0, ny0⟩ := open_f32sW Try.underlying22 Try.underlying25 (by kernel_rfl) tg1
  obtain ⟨fr0, efr0, wfr0⟩ := trod_float Try.underlying25 tg2
  cases efr0
  obtain ⟨fd0, efd0, wfd0⟩ := trod_float Try.underlying25 tg3
  cases efd0
  obtain ⟨fs0, efs0, wfs0⟩ := trod_float Try.underlying25 tg4
  cases efs0
  obtain ⟨wp0x0, wp1x0, wp2x0, wp3x0, wp4x0, wp5x0, wp6x0, wp7x0⟩ := wpl0
  exact ⟨A0, L0, D0, S0, ca0, cl0, cd0, n0, cs0, c0, hb0, tp0, xa0, xl0, xd0, xs0, ea0x0, ea1x0, ea2x0, ea3x0, p0x0, p1x0, p2x0, p3x0, p4x0, p5x0, p6x0, p7x0, st0, sp0, pi0, en0, X0, Y0, cx0, cy0, fx0, fy0, fr0, fd0, fs0, rfl, ⟨⟨wa0, wl0, wd0⟩, ws0⟩, es0, ma0, ml0, md0, ms0, ⟨wx0, wy0⟩, mx0, my0, ⟨⟨⟨words_of na0, words_of nl0, words_of nd0⟩, words_of ns0, canon_lt (lt_of_wf whb0), canon_lt (lt_of_wf wtp0)⟩, ⟨canon_lt (lt_of_wf wea0x0), canon_lt (lt_of_wf wea1x0), canon_lt (lt_of_wf wea2x0), canon_lt (lt_of_wf wea3x0)⟩, ⟨⟨canon_lt (lt_of_wf wp0x0), canon_lt (lt_of_wf wp1x0), canon_lt (lt_of_wf wp2x0), canon_lt (lt_of_wf wp3x0), canon_lt (lt_of_wf wp4x0), canon_lt (lt_of_wf wp5x0), canon_lt (lt_of_wf wp6x0), canon_lt (lt_of_wf wp7x0)⟩, canon_lt (lt_of_wf wsp0), canon_lt (lt_of_wf wpi0), canon_lt (lt_of_wf wen0)⟩, ⟨nx0, ny0⟩, lt_of_wf wfr0, lt_of_wf wfd0, lt_of_wf wfs0⟩⟩
theorem lawv_FnExactSameDesk (v0 v1 : Value) (w : World) (h0 : IsDesk w v0) (h1 : IsDesk w v1) :
    Calls Try.prog 13 #[v0, v1] w fun e w' => e = .returned (.bool true) ∧ Below w.heap.size w w' := by
  obtain ⟨A, L, D, S, ca, cl, cd, n, cs, c, hub, tip, a, l, d, s, e0, e1, e2, e3, p0, p1, p2, p3, p4, p5, p6, p7, st, sp, pi, en, X, Y, cx, cy, fx, fy, fr, fd, fs, rfl, hr, hs, ha, hl, hd, hn, hf, hx, hy, hw⟩ := h0
  obtain ⟨A', L', D', S', ca', cl', cd', n', cs', c', hub', tip', a', l', d', s', e0', e1', e2', e3', q0, q1, q2, q3, q4, q5, q6, q7, st', sp', pi', en', X', Y', cx', cy', fx', fy', fr', fd', fs', rfl, hr', hs', ha', hl', hd', hn', hf', hx', hy', hw'⟩ := h1
  exact law_FnExactSameDesk A L D S ca cl cd n cs c hub tip a l d s e0 e1 e2 e3 p0 p1 p2 p3 p4 p5 p6 p7 st sp pi en X Y cx cy fx fy fr fd fs A' L' D' S' ca' cl' cd' n' cs' c' hub' tip' a' l' d' s' e0' e1' e2' e3' q0 q1 q2 q3 q4 q5 q6 q7 st' sp' pi' en' X' Y' cx' cy' fx' fy' fr' fd' fs' w hr hs ha hl hd hn hf hx hy hw hr' hs' ha' hl' hd' hn' hf' hx' hy' hw'
end Go.Proofs.Ytiiiigldpbomkaa
