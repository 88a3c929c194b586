/- What the program's field tells rays; a ray that came in, as a walk wants it. -/
import Derived.Test.YtinahmhiopgcnaaAf
import Derived.Test.YtinahmhiopgcnaaE9
import Derived.Test.YtinahmhiopgcnaaEu
namespace Go.Proofs.Ytinahmhiopgcnaa
open Go.RowKit Go.ChangeShapes Go.WideShapes Go.Deep Go.Joins
set_option linter.unusedVariables false

theorem fieldY : FieldY fieldT := ⟨fun t lo B w hB K hlo _ k => (fNew_yes t lo B w hB K hlo k).mono fun _ _ ⟨⟨f, e, p⟩, h⟩ => ⟨⟨f, e, p⟩, h⟩⟩
/-- what the program's field tells, as far as rays ask it -/
theorem fieldR : FieldR fieldT where
  yes := fun t lo B w hB K hlo _ k => (fNew_yes t lo B w hB K hlo k).mono fun _ _ ⟨⟨f, e, p⟩, h⟩ => ⟨⟨f, e, p⟩, h⟩
  height := fun t x y b k o lo top f w _ _ ⟨hb, gb, hc, gc, P⟩ e m => fHeight_any t x y b k o lo top f hb gb hc gc w P e m
  normal := fun t x y b k o lo top f w _ _ ⟨hb, gb, hc, gc, P⟩ e m => fNormal_any t x y b k o lo top f hb gb hc gc w P e m
  kind := fun t x y lo top f w _ _ ⟨hb, gb, hc, gc, P⟩ => fKind_any t x y lo top f hb gb hc gc w P
section
variable {H : Type} {enc : TypeId × Value → H} {P : Program} {w : World} {base : Nat} {spare : Nat → Bool} {held : Bool}
/-- a struct of three integers, as cells -/
theorem trod_trip {t : TypeId} {f0 f1 f2 : Field} {fuel : Nat} {a b c : Value} {x : DataW H × List MemPlace} (ht : P.underlying t = some (.struct #[f0, f1, f2])) (hk0 : P.underlying f0.type = some (.int .i64)) (hk1 : P.underlying f1.type = some (.int .i64)) (hk2 : P.underlying f2.type = some (.int .i64))
    (ho : (f0.offset, f1.offset, f2.offset) = (0, 1, 2)) (hc : (P.cellsOf f0.type, P.cellsOf f1.type, P.cellsOf f2.type) = (1, 1, 1)) (h : DataW.trod enc P w base spare held fuel t [a, b, c] = some x) :
    ∃ p q r, a = .int .i64 p ∧ b = .int .i64 q ∧ c = .int .i64 r ∧ (Lit.int .i64 p).wf = true ∧ (Lit.int .i64 q).wf = true ∧ (Lit.int .i64 r).wf = true := by
  simp only [Prod.mk.injEq] at ho hc
  obtain ⟨o0, o1, o2⟩ := ho
  obtain ⟨c0, c1, c2⟩ := hc
  obtain ⟨xs, n, _, _, hlen, hxl, hh⟩ := DataW.trod_struct ht h
  have hxl : xs.length = 3 := hxl
  obtain ⟨z0, g0⟩ := trod_fld hh 0 (f := f0) rfl (by omega) (o := 0) (k := 1) (ty := f0.type) (by rw [o0, c0])
  obtain ⟨z1, g1⟩ := trod_fld hh 1 (f := f1) rfl (by omega) (o := 1) (k := 1) (ty := f1.type) (by rw [o1, c1])
  obtain ⟨z2, g2⟩ := trod_fld hh 2 (f := f2) rfl (by omega) (o := 2) (k := 1) (ty := f2.type) (by rw [o2, c2])
  obtain ⟨p, ep, _, wp⟩ := DataW.trod_int hk0 g0
  obtain ⟨q, eq, _, wq⟩ := DataW.trod_int hk1 g1
  obtain ⟨r, er, _, wr⟩ := DataW.trod_int hk2 g2
  simp at ep eq er
  exact ⟨p, q, r, ep, eq, er, wp, wq, wr⟩
end
theorem in3_of {x y z : Int} (w0 : (Lit.int .i64 x).wf = true) (w1 : (Lit.int .i64 y).wf = true) (w2 : (Lit.int .i64 z).wf = true) : In3 x y z :=
  ⟨(wf_64 w0).1, (wf_64 w0).2, (wf_64 w1).1, (wf_64 w1).2, (wf_64 w2).1, (wf_64 w2).2⟩
set_option maxRecDepth 100000 in
set_option maxHeartbeats 1000000 in
/-- the opening serves a ray -/
theorem ask_api {H : Type} {enc : TypeId × Value → H} {w : World} {v : Value} {d : DataW H} {ps : List MemPlace} {rr : Reach} {b0 : Nat} (hv : Value.okWide Try.prog w rr b0 61 v) (h : DataW.Trod enc Try.prog w 0 (fun _ => true) true 61 v d ps) :
    ∃ a : Ry, v = .agg #[.int .i64 a.ox, .int .i64 a.oy, .int .i64 a.oz, .int .i64 a.dx, .int .i64 a.dy, .int .i64 a.dz, .int .i64 a.long] ∧ a.ins := by
  obtain ⟨cs, rfl, hsz⟩ := okWide_struct Try.underlying61 hv
  have hsz : cs.size = 7 := hsz.trans (by kernel_rfl)
  obtain ⟨l⟩ := cs
  match l, hsz with
  | [c0, c1, c2, c3, c4, c5, c6], _ =>
    obtain ⟨fuel, hf⟩ := h
    obtain ⟨xs, n, _, _, _, hxl, hh⟩ := DataW.trod_struct Try.underlying61 hf
    have hxl : xs.length = 3 := hxl
    obtain ⟨z0, g0⟩ := trod_fld hh 0 rfl (by omega) (o := 0) (k := 3) (ty := 24) (by kernel_rfl)
    obtain ⟨z1, g1⟩ := trod_fld hh 1 rfl (by omega) (o := 3) (k := 3) (ty := 24) (by kernel_rfl)
    obtain ⟨z2, g2⟩ := trod_fld hh 2 rfl (by omega) (o := 6) (k := 1) (ty := 22) (by kernel_rfl)
    obtain ⟨x0, x1, x2, e0, e1, e2, w0, w1, w2⟩ := trod_trip Try.underlying24 Try.underlying22 Try.underlying22 Try.underlying22 (by kernel_rfl) (by kernel_rfl) g0
    obtain ⟨x3, x4, x5, e3, e4, e5, w3, w4, w5⟩ := trod_trip Try.underlying24 Try.underlying22 Try.underlying22 Try.underlying22 (by kernel_rfl) (by kernel_rfl) g1
    obtain ⟨x6, e6, _, w6⟩ := DataW.trod_int Try.underlying22 g2
    replace e6 := (List.cons.inj (show [c6] = [_] from e6)).1
    subst e0 e1 e2 e3 e4 e5 e6
    exact ⟨⟨x0, x1, x2, x3, x4, x5, x6⟩, rfl, ⟨in3_of w0 w1 w2, in3_of w3 w4 w5, wf_64 w6⟩⟩
/-- a ray from a place in a direction, as a walk wants both -/
theorem ray_of {x y z p q r : Int} (w0 : (Lit.int .i64 x).wf = true) (w1 : (Lit.int .i64 y).wf = true) (w2 : (Lit.int .i64 z).wf = true) (w3 : (Lit.int .i64 p).wf = true) (w4 : (Lit.int .i64 q).wf = true) (w5 : (Lit.int .i64 r).wf = true) : (⟨x, y, z, p, q, r, 0⟩ : Ry).ins :=
  ⟨in3_of w0 w1 w2, in3_of w3 w4 w5, by show In64 0; unfold In64; omega⟩
end Go.Proofs.Ytinahmhiopgcnaa
