/- A slice of numbers that came in, as a walk wants it. -/
import Derived.Test.YtllkhgcokbpggaaBp
import Derived.Deep.Slices
import Derived.ChangeSame
import Derived.Lib.SmallJoins
import Derived.Test.YtllkhgcokbpggaaBd
import Derived.ChangeArms
namespace Go.Proofs.Ytllkhgcokbpggaa
open Go.RowKit Go.ChangeShapes Go.WideShapes Go.Deep Go.Joins
set_option linter.unusedVariables false

theorem nums_of {H : Type} {enc : TypeId × Value → H} {w : World} {v : Value} {y : DataW H × List MemPlace} {fuel : Nat} {t e : TypeId}
    (ht : Try.prog.underlying t = some (.slice e)) (he : Try.prog.underlying e = some (.int .i64)) (hc : Try.prog.cellsOf e = 1)
    (hf : DataW.trod enc Try.prog w 0 (fun _ => true) true fuel t [v] = some y) : ∃ s : Sl, v = .slice s.a s.n s.c ∧ Nums w.heap.size w s := by
  rcases open_ints ht he hc hf with ⟨hcs, _⟩ | ⟨a', len', cap', zs, hcs, _, hl, hm, hz, _, hcell, hwz⟩
  · simp at hcs
    exact ⟨⟨none, 0, 0, fun _ => 0⟩, hcs, ⟨by show 0 ≤ maxLen; unfold maxLen; omega, Nat.le_refl _, fun i h => absurd h (by show ¬ i < 0; omega), fun h => absurd h (by show ¬ 0 < 0; omega)⟩⟩
  · simp at hcs
    simp only [if_true] at hz
    refine ⟨⟨some a', len', cap', fun i => zs.getD i 0⟩, hcs, ⟨hm, hl, fun i hi => ?_, fun h0 => ?_⟩⟩
    · have hi' : i < len' := hi
      have hil : i < zs.length := by omega
      have : zs.getD i 0 = zs[i] := by rw [List.getD_eq_getElem?_getD, List.getElem?_eq_getElem hil]; rfl
      show (Lit.int .i64 (zs.getD i 0)).wf = true
      rw [this]; exact hwz _ (List.getElem_mem hil)
    · have h0' : 0 < len' := h0
      have c0 := hcell 0 (by omega)
      obtain ⟨b, off, spot⟩ := a'
      have hspot : spot = none := by simpa [Addr.add] using World.cell?_spot c0
      subst hspot
      refine ⟨b, off, rfl, ?_, fun i hi => ?_⟩
      · have := block_lt_of_cell c0
        simpa [Addr.add] using this
      · have hi' : i < len' := hi
        have ci := hcell i (by omega)
        have e2 : (⟨b, off, none⟩ : Addr).add i = ⟨b, off + i, none⟩ := by simp [Addr.add]
        rw [← e2]; exact ci
end Go.Proofs.Ytllkhgcokbpggaa
namespace Go.Proofs.Ytllkhgcokbpggaa
open Go.RowKit Go.ChangeShapes Go.WideShapes Go.Deep Go.Joins
set_option linter.unusedVariables false

section
variable {H : Type} {enc : TypeId × Value → H} {P : Program} {w : World} {base : Nat} {spare : Nat → Bool} {held : Bool}
/-- one field of a struct -/
theorem trod_fld {fs : Array Field} {xs : List (DataW H × List MemPlace)} {n : Nat} {cs : List Value} (hh : ∀ (i : Nat) (f : Field), fs[i]? = some f → DataW.trod enc P w base spare held n f.type ((cs.drop f.offset).take (P.cellsOf f.type)) = xs[i]?)
    (i : Nat) {f : Field} (hf : fs[i]? = some f) (hi : i < xs.length) {o k : Nat} {ty : TypeId} (hx : (f.offset, P.cellsOf f.type, f.type) = (o, k, ty)) : ∃ y, DataW.trod enc P w base spare held n ty ((cs.drop o).take k) = some y := by
  simp only [Prod.mk.injEq] at hx
  obtain ⟨rfl, rfl, rfl⟩ := hx
  exact ⟨xs[i], (hh i f hf).trans (List.getElem?_eq_getElem hi)⟩
/-- a struct of two integers, as cells -/
theorem trod_pair {t : TypeId} {f0 f1 : Field} {fuel : Nat} {a b : Value} {x : DataW H × List MemPlace} (ht : P.underlying t = some (.struct #[f0, f1])) (hk0 : P.underlying f0.type = some (.int .i64)) (hk1 : P.underlying f1.type = some (.int .i64))
    (ho : (f0.offset, f1.offset, P.cellsOf f0.type, P.cellsOf f1.type) = (0, 1, 1, 1)) (h : DataW.trod enc P w base spare held fuel t [a, b] = some x) :
    ∃ p q, a = .int .i64 p ∧ b = .int .i64 q ∧ (Lit.int .i64 p).wf = true ∧ (Lit.int .i64 q).wf = true := by
  simp only [Prod.mk.injEq] at ho
  obtain ⟨o0, o1, c0, c1⟩ := ho
  obtain ⟨y0, y1, n, _, _, g0, g1⟩ := trod_struct2 ht h
  rw [o0, c0] at g0
  rw [o1, c1] at g1
  obtain ⟨p, ep, _, wp⟩ := DataW.trod_int hk0 g0
  obtain ⟨q, eq, _, wq⟩ := DataW.trod_int hk1 g1
  simp at ep eq
  exact ⟨p, q, ep, eq, wp, wq⟩
/-- a slice of whatever, as a value alone -/
theorem slice_form {fuel : Nat} {t e : TypeId} {v : Value} {x : DataW H × List MemPlace} (ht : P.underlying t = some (.slice e)) (h : DataW.trod enc P w base spare held fuel t [v] = some x) : ∃ a n c, v = .slice a n c := by
  rcases open_slice ht h with ⟨hcs, _⟩ | ⟨a, len, cap, m, n', D, Pl, hcs, _⟩
  · simp at hcs; exact ⟨_, _, _, hcs⟩
  · simp at hcs; exact ⟨_, _, _, hcs⟩
end
theorem kinds_of {H : Type} {enc : TypeId × Value → H} {P : Program} {w : World} {v : Value} {y : DataW H × List MemPlace} {fuel : Nat} {t e : TypeId} {f0 f1 f2 : Field}
    (ht : P.underlying t = some (.slice e)) (he : P.underlying e = some (.struct #[f0, f1, f2])) (hk0 : P.underlying f0.type = some (.int .i64)) (hk1 : P.underlying f1.type = some (.int .i64)) (hk2 : P.underlying f2.type = some .bool)
    (ho : (f0.offset, f1.offset, f2.offset) = (0, 1, 2)) (hc : (P.cellsOf f0.type, P.cellsOf f1.type, P.cellsOf f2.type, P.cellsOf e) = (1, 1, 1, 3))
    (hf : DataW.trod enc P w 0 (fun _ => true) true fuel t [v] = some y) :
    ∃ (a : Option Addr) (len cap : Nat) (g d : Nat → Int) (o : Nat → Bool), v = .slice a len cap ∧ cap ≤ maxLen ∧ len ≤ cap ∧ (∀ i, i < len → (Lit.int .i64 (g i)).wf = true ∧ (Lit.int .i64 (d i)).wf = true) ∧
      (0 < len → ∃ b off, a = some ⟨b, off, none⟩ ∧ b < w.heap.size ∧ ∀ i, i < len → w.cell? ⟨b, off + i * 3, none⟩ = some (.int .i64 (g i)) ∧ w.cell? ⟨b, off + i * 3 + 1, none⟩ = some (.int .i64 (d i)) ∧ w.cell? ⟨b, off + i * 3 + 2, none⟩ = some (.bool (o i))) := by
  simp only [Prod.mk.injEq] at ho hc
  obtain ⟨o0, o1, o2⟩ := ho
  obtain ⟨c0, c1, c2, h2⟩ := hc
  rcases open_slice ht hf with ⟨hcs, _⟩ | ⟨a', len', cap', m, n, D, Pl, hcs, _, hl, hm, hmm, _, hi⟩
  · simp at hcs
    exact ⟨none, 0, 0, fun _ => 0, fun _ => 0, fun _ => false, hcs, by unfold maxLen; omega, by omega, fun i h => absurd h (by omega), fun h => absurd h (by omega)⟩
  · simp at hcs
    simp only [if_true] at hmm
    subst hmm
    have key : ∀ i, i < m → ∃ q : Int × Int × Bool, (Lit.int .i64 q.1).wf = true ∧ (Lit.int .i64 q.2.1).wf = true ∧ w.cell? (a'.add (i * 3)) = some (.int .i64 q.1) ∧ w.cell? (a'.add (i * 3 + 1)) = some (.int .i64 q.2.1) ∧ w.cell? (a'.add (i * 3 + 2)) = some (.bool q.2.2) := by
      intro i hin
      obtain ⟨cs, hc, hd⟩ := hi i hin
      rw [h2] at hc
      obtain ⟨xs, q, _, _, hlen, hxl, hh⟩ := DataW.trod_struct he hd
      have hxl : xs.length = 3 := hxl
      obtain ⟨z0, g0⟩ := trod_fld hh 0 (f := f0) rfl (by omega) (o := 0) (k := 1) (ty := f0.type) (by rw [o0, c0])
      obtain ⟨z1, g1⟩ := trod_fld hh 1 (f := f1) rfl (by omega) (o := 1) (k := 1) (ty := f1.type) (by rw [o1, c1])
      obtain ⟨z2, g2⟩ := trod_fld hh 2 (f := f2) rfl (by omega) (o := 2) (k := 1) (ty := f2.type) (by rw [o2, c2])
      obtain ⟨x0, e0, _, w0⟩ := DataW.trod_int hk0 g0
      obtain ⟨x1, e1, _, w1⟩ := DataW.trod_int hk1 g1
      obtain ⟨x2, e2, _⟩ := DataW.trod_bool hk2 g2
      have hcell := (World.cells?_some hc).2.2
      have hl3 : cs.length = 3 := by omega
      match cs, hl3 with
      | [v0, v1, v2], _ =>
        simp at e0 e1 e2
        subst e0 e1 e2
        refine ⟨(x0, x1, x2), w0, w1, ?_, ?_, ?_⟩
        · have k0 := hcell 0 (by simp); rw [add_add] at k0; simpa using k0
        · have k0 := hcell 1 (by simp); rw [add_add] at k0; simpa using k0
        · have k0 := hcell 2 (by simp); rw [add_add] at k0; simpa using k0
    obtain ⟨f, hf2⟩ := choose_lt key
    refine ⟨some a', len', m, fun i => (f i).1, fun i => (f i).2.1, fun i => (f i).2.2, hcs, hm, hl, fun i h => ⟨(hf2 i (by omega)).1, (hf2 i (by omega)).2.1⟩, fun h0 => ?_⟩
    have k0 := (hf2 0 (by omega)).2.2.1
    obtain ⟨b, off, spot⟩ := a'
    have hspot : spot = none := by simpa [Addr.add] using World.cell?_spot k0
    subst hspot
    refine ⟨b, off, rfl, ?_, fun i hin => ?_⟩
    · have := block_lt_of_cell k0
      simpa [Addr.add] using this
    · have k := (hf2 i (by omega)).2.2
      rw [Addr.add_lit, Addr.add_lit, Addr.add_lit] at k
      exact k
theorem wf_64 {n : Int} (h : (Lit.int .i64 n).wf = true) : In64 n := bounds_i64 h
set_option maxRecDepth 100000 in
set_option maxHeartbeats 1000000 in
/-- the opening serves api.Track -/
theorem trk_api {H : Type} {enc : TypeId × Value → H} {w : World} {v : Value} {d : DataW H} {ps : List MemPlace} {rr : Reach} {b0 : Nat} (hv : Value.okWide Try.prog w rr b0 34 v) (h : DataW.Trod enc Try.prog w 0 (fun _ => true) true 34 v d ps) :
    ∃ t : Trk, v = .agg #[.int .i64 t.rate, .int .i64 t.cell, .int .i64 t.cols, .int .i64 t.rows, .int .i64 t.cx, .int .i64 t.cy, .slice t.H.a t.H.n t.H.c, .slice t.G.a t.G.n t.G.c, .slice t.ka t.kn t.kc, .slice t.la t.ln t.lc, .slice t.ra t.rn t.rc, .slice t.ga t.gn t.gc, .int .i64 t.sx, .int .i64 t.sy, .int .u32 t.head, .int .i64 t.laps] ∧ TrkM w.heap.size w t := by
  obtain ⟨cs, rfl, hsz⟩ := okWide_struct Try.underlying34 hv
  have hsz : cs.size = 16 := hsz.trans (by kernel_rfl)
  obtain ⟨l⟩ := cs
  match l, hsz with
  | [c0, c1, c2, c3, c4, c5, c6, c7, c8, c9, c10, c11, c12, c13, c14, c15], _ =>
    obtain ⟨fuel, hf⟩ := h
    obtain ⟨xs, n, _, _, _, hxl, hh⟩ := DataW.trod_struct Try.underlying34 hf
    have hxl : xs.length = 14 := hxl
    obtain ⟨z0, g0⟩ := trod_fld hh 0 rfl (by omega) (o := 0) (k := 1) (ty := 3) (by kernel_rfl)
    obtain ⟨z1, g1⟩ := trod_fld hh 1 rfl (by omega) (o := 1) (k := 1) (ty := 22) (by kernel_rfl)
    obtain ⟨z2, g2⟩ := trod_fld hh 2 rfl (by omega) (o := 2) (k := 1) (ty := 3) (by kernel_rfl)
    obtain ⟨z3, g3⟩ := trod_fld hh 3 rfl (by omega) (o := 3) (k := 1) (ty := 3) (by kernel_rfl)
    obtain ⟨z4, g4⟩ := trod_fld hh 4 rfl (by omega) (o := 4) (k := 2) (ty := 24) (by kernel_rfl)
    obtain ⟨z5, g5⟩ := trod_fld hh 5 rfl (by omega) (o := 6) (k := 1) (ty := 25) (by kernel_rfl)
    obtain ⟨z6, g6⟩ := trod_fld hh 6 rfl (by omega) (o := 7) (k := 1) (ty := 26) (by kernel_rfl)
    obtain ⟨z7, g7⟩ := trod_fld hh 7 rfl (by omega) (o := 8) (k := 1) (ty := 27) (by kernel_rfl)
    obtain ⟨z8, g8⟩ := trod_fld hh 8 rfl (by omega) (o := 9) (k := 1) (ty := 28) (by kernel_rfl)
    obtain ⟨z9, g9⟩ := trod_fld hh 9 rfl (by omega) (o := 10) (k := 1) (ty := 29) (by kernel_rfl)
    obtain ⟨z10, g10⟩ := trod_fld hh 10 rfl (by omega) (o := 11) (k := 1) (ty := 30) (by kernel_rfl)
    obtain ⟨z11, g11⟩ := trod_fld hh 11 rfl (by omega) (o := 12) (k := 2) (ty := 24) (by kernel_rfl)
    obtain ⟨z12, g12⟩ := trod_fld hh 12 rfl (by omega) (o := 14) (k := 1) (ty := 32) (by kernel_rfl)
    obtain ⟨z13, g13⟩ := trod_fld hh 13 rfl (by omega) (o := 15) (k := 1) (ty := 3) (by kernel_rfl)
    obtain ⟨x0, e0, _, w0⟩ := DataW.trod_int Try.underlying3 g0
    obtain ⟨x1, e1, _, w1⟩ := DataW.trod_int Try.underlying22 g1
    obtain ⟨x2, e2, _, w2⟩ := DataW.trod_int Try.underlying3 g2
    obtain ⟨x3, e3, _, w3⟩ := DataW.trod_int Try.underlying3 g3
    obtain ⟨x4, x5, e4, e5, w4, w5⟩ := trod_pair Try.underlying24 Try.underlying22 Try.underlying22 (by kernel_rfl) g4
    obtain ⟨s6, e6, N6⟩ := nums_of Try.underlying25 Try.underlying22 (by kernel_rfl) g5
    obtain ⟨s7, e7, N7⟩ := nums_of Try.underlying26 Try.underlying3 (by kernel_rfl) g6
    obtain ⟨ka, kn, kc, kg, kd, ko, e8, km, kl, kw, kcell⟩ := kinds_of Try.underlying27 Try.underlying176 Try.underlying22 Try.underlying22 Try.underlying4 (by kernel_rfl) (by kernel_rfl) g7
    obtain ⟨la, ln, lc, e9⟩ := slice_form Try.underlying28 g8
    obtain ⟨ra, rn, rc, e10⟩ := slice_form Try.underlying29 g9
    obtain ⟨ga, gn, gc, e11⟩ := slice_form Try.underlying30 g10
    obtain ⟨x12, x13, e12, e13, w12, w13⟩ := trod_pair Try.underlying24 Try.underlying22 Try.underlying22 (by kernel_rfl) g11
    obtain ⟨x14, e14, _, w14⟩ := DataW.trod_int Try.underlying32 g12
    obtain ⟨x15, e15, _, w15⟩ := DataW.trod_int Try.underlying3 g13
    replace e0 := (List.cons.inj (show [c0] = [_] from e0)).1
    replace e1 := (List.cons.inj (show [c1] = [_] from e1)).1
    replace e2 := (List.cons.inj (show [c2] = [_] from e2)).1
    replace e3 := (List.cons.inj (show [c3] = [_] from e3)).1
    replace e14 := (List.cons.inj (show [c14] = [_] from e14)).1
    replace e15 := (List.cons.inj (show [c15] = [_] from e15)).1
    subst e0 e1 e2 e3 e4 e5 e6 e7 e8 e9 e10 e11 e12 e13 e14 e15
    exact ⟨⟨x0, x1, x2, x3, x4, x5, s6, s7, ka, kn, kc, kg, kd, ko, la, ln, lc, ra, rn, rc, ga, gn, gc, x12, x13, x14, x15⟩, rfl, N6, N7, km, kl, fun i hi => ⟨wf_64 (kw i hi).1, wf_64 (kw i hi).2⟩, kcell, wf_64 w1, wf_64 w2, wf_64 w3, wf_64 w4, wf_64 w5⟩
end Go.Proofs.Ytllkhgcokbpggaa
