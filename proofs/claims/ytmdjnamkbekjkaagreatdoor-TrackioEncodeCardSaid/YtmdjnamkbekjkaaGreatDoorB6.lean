/- -/
import Derived.Test.YtmdjnamkbekjkaaGreatDoorBp
import Derived.Deep.Slices
import Derived.ChangeSame
import Derived.Lib.SmallJoins
import Derived.Test.YtmdjnamkbekjkaaGreatDoorBd
import Derived.ChangeArms
namespace Go.Proofs.YtmdjnamkbekjkaaGreatDoor
open Go.RowKit
set_option linter.unusedVariables false
set_option linter.unusedSimpArgs false
section
open Go.RowKit Go.ChangeShapes Go.WideShapes Go.Deep Go.Joins
theorem nums_of {H : Type} {enc : TypeId × Value → H} {w : World} {v : Value} {y : DataW H × List MemPlace} {fuel : Nat} {t e : TypeId}
  (ht : Tryz.prog.underlying t = some (.slice e)) (he : Tryz.prog.underlying e = some (.int .i64)) (hc : Tryz.prog.cellsOf e = 1)
  (hf : DataW.trod enc Tryz.prog w 0 (fun _ => true) true fuel t [v] = some y) : ∃ s : Sl, v = .slice s.a s.n s.c ∧ Nums w.heap.size w s := by
 rcases open_ints ht he hc hf with ⟨hcs, _⟩ | ⟨a', len', cap', zs, hcs, _, hl, hm, hz, _, hcell, hwz⟩
 ·simp at hcs
  exact ⟨⟨none, 0, 0, fun _ => 0⟩, hcs, ⟨by show 0 ≤ maxLen; unfold maxLen; omega, Nat.le_refl _, fun i h => absurd h (by show ¬ i < 0; omega), fun h => absurd h (by show ¬ 0 < 0; omega)⟩⟩
 ·simp at hcs
  simp only [if_true] at hz
  refine ⟨⟨some a', len', cap', fun i => zs.getD i 0⟩, hcs, ⟨hm, hl, fun i hi => ?_, fun h0 => ?_⟩⟩
  ·have hi' : i < len' := hi
   have hil : i < zs.length := by omega
   have : zs.getD i 0 = zs[i] := by rw [List.getD_eq_getElem?_getD, List.getElem?_eq_getElem hil]; rfl
   show (Lit.int .i64 (zs.getD i 0)).wf = true
   rw [this]; exact hwz _ (List.getElem_mem hil)
  ·have h0' : 0 < len' := h0
   have c0 := hcell 0 (by omega)
   obtain ⟨b, off, spot⟩ := a'
   have hspot : spot = none := by simpa [Addr.add] using World.cell?_spot c0
   subst hspot
   refine ⟨b, off, rfl, ?_, fun i hi => ?_⟩
   ·have := block_lt_of_cell c0
    simpa [Addr.add] using this
   ·have hi' : i < len' := hi
    have ci := hcell i (by omega)
    have e2 : (⟨b, off, none⟩ : Addr).add i = ⟨b, off + i, none⟩ := by simp [Addr.add]
    rw [← e2]; exact ci
end
section
open Go.RowKit Go.ChangeShapes Go.WideShapes Go.Deep Go.Joins
section
variable {H : Type} {enc : TypeId × Value → H} {P : Program} {w : World} {base : Nat} {spare : Nat → Bool} {held : Bool}
theorem trod_fld {fs : Array Field} {xs : List (DataW H × List MemPlace)} {n : Nat} {cs : List Value} (hh : ∀ (i : Nat) (f : Field), fs[i]? = some f → DataW.trod enc P w base spare held n f.type ((cs.drop f.offset).take (P.cellsOf f.type)) = xs[i]?)
  (i : Nat) {f : Field} (hf : fs[i]? = some f) (hi : i < xs.length) {o k : Nat} {ty : TypeId} (hx : (f.offset, P.cellsOf f.type, f.type) = (o, k, ty)) : ∃ y, DataW.trod enc P w base spare held n ty ((cs.drop o).take k) = some y := by
 simp only [Prod.mk.injEq] at hx
 obtain ⟨rfl, rfl, rfl⟩ := hx
 exact ⟨xs[i], (hh i f hf).trans (List.getElem?_eq_getElem hi)⟩
theorem trod_pair {t : TypeId} {f0 f1 : Field} {fuel : Nat} {a b : Value} {x : DataW H × List MemPlace} (ht : P.underlying t = some (.struct #[f0, f1])) (hk0 : P.underlying f0.type = some (.int .i64)) (hk1 : P.underlying f1.type = some (.int .i64))
  (ho : (f0.offset, f1.offset, P.cellsOf f0.type, P.cellsOf f1.type) = (0, 1, 1, 1)) (h : DataW.trod enc P w base spare held fuel t [a, b] = some x) :
  ∃ p q, a = .int .i64 p ∧ b = .int .i64 q ∧ (Lit.int .i64 p).wf = true ∧ (Lit.int .i64 q).wf = true := by
 simp only [Prod.mk.injEq] at ho
 obtain ⟨o0, o1, c0, c1⟩ := ho
 obtain ⟨y0, y1, n, _, _, g0, g1⟩ := trod_struct2 ht h
 rw [o0, c0] at g0
 rw [o1, c1] at g1
 obtain ⟨p, ep, _, wp⟩ := DataW.trod_int hk0 g0
 obtain ⟨q, eq, _, wq⟩ := DataW.trod_int hk1 g1
 simp at ep eq
 exact ⟨p, q, ep, eq, wp, wq⟩
theorem slice_form {fuel : Nat} {t e : TypeId} {v : Value} {x : DataW H × List MemPlace} (ht : P.underlying t = some (.slice e)) (h : DataW.trod enc P w base spare held fuel t [v] = some x) : ∃ a n c, v = .slice a n c := by
 rcases open_slice ht h with ⟨hcs, _⟩ | ⟨a, len, cap, m, n', D, Pl, hcs, _⟩
 ·simp at hcs; exact ⟨_, _, _, hcs⟩
 ·simp at hcs; exact ⟨_, _, _, hcs⟩
end
theorem kinds_of {H : Type} {enc : TypeId × Value → H} {P : Program} {w : World} {v : Value} {y : DataW H × List MemPlace} {fuel : Nat} {t e : TypeId} {f0 f1 f2 : Field}
  (ht : P.underlying t = some (.slice e)) (he : P.underlying e = some (.struct #[f0, f1, f2])) (hk0 : P.underlying f0.type = some (.int .i64)) (hk1 : P.underlying f1.type = some (.int .i64)) (hk2 : P.underlying f2.type = some .bool)
  (ho : (f0.offset, f1.offset, f2.offset) = (0, 1, 2)) (hc : (P.cellsOf f0.type, P.cellsOf f1.type, P.cellsOf f2.type, P.cellsOf e) = (1, 1, 1, 3))
  (hf : DataW.trod enc P w 0 (fun _ => true) true fuel t [v] = some y) :
  ∃ (a : Option Addr) (len cap : Nat) (g d : Nat → Int) (o : Nat → Bool), v = .slice a len cap ∧ cap ≤ maxLen ∧ len ≤ cap ∧ (∀ i, i < len → (Lit.int .i64 (g i)).wf = true ∧ (Lit.int .i64 (d i)).wf = true) ∧
   (0 < len → ∃ b off, a = some ⟨b, off, none⟩ ∧ b < w.heap.size ∧ ∀ i, i < len → w.cell? ⟨b, off + i * 3, none⟩ = some (.int .i64 (g i)) ∧ w.cell? ⟨b, off + i * 3 + 1, none⟩ = some (.int .i64 (d i)) ∧ w.cell? ⟨b, off + i * 3 + 2, none⟩ = some (.bool (o i))) := by
 simp only [Prod.mk.injEq] at ho hc
 obtain ⟨o0, o1, o2⟩ := ho
 obtain ⟨c0, c1, c2, h2⟩ := hc
 rcases open_slice ht hf with ⟨hcs, _⟩ | ⟨a', len', cap', m, n, D, Pl, hcs, _, hl, hm, hmm, _, hi⟩
 ·simp at hcs
  exact ⟨none, 0, 0, fun _ => 0, fun _ => 0, fun _ => false, hcs, by unfold maxLen; omega, by omega, fun i h => absurd h (by omega), fun h => absurd h (by omega)⟩
 ·simp at hcs
  simp only [if_true] at hmm
  subst hmm
  have key : ∀ i, i < m → ∃ q : Int × Int × Bool, (Lit.int .i64 q.1).wf = true ∧ (Lit.int .i64 q.2.1).wf = true ∧ w.cell? (a'.add (i * 3)) = some (.int .i64 q.1) ∧ w.cell? (a'.add (i * 3 + 1)) = some (.int .i64 q.2.1) ∧ w.cell? (a'.add (i * 3 + 2)) = some (.bool q.2.2) := by
   intro i hin
   obtain ⟨cs, hc, hd⟩ := hi i hin
   rw [h2] at hc
   obtain ⟨xs, q, _, _, hlen, hxl, hh⟩ := DataW.trod_struct he hd
   have hxl : xs.length = 3 := hxl
   obtain ⟨z0, g0⟩ := trod_fld hh 0 (f := f0) rfl (by omega) (o := 0) (k := 1) (ty := f0.type) (by rw [o0, c0])
   obtain ⟨z1, g1⟩ := trod_fld hh 1 (f := f1) rfl (by omega) (o := 1) (k := 1) (ty := f1.type) (by rw [o1, c1])
   obtain ⟨z2, g2⟩ := trod_fld hh 2 (f := f2) rfl (by omega) (o := 2) (k := 1) (ty := f2.type) (by rw [o2, c2])
   obtain ⟨x0, e0, _, w0⟩ := DataW.trod_int hk0 g0
   obtain ⟨x1, e1, _, w1⟩ := DataW.trod_int hk1 g1
   obtain ⟨x2, e2, _⟩ := DataW.trod_bool hk2 g2
   have hcell := (World.cells?_some hc).2.2
   have hl3 : cs.length = 3 := by omega
   match cs, hl3 with
   | [v0, v1, v2], _ =>
    simp at e0 e1 e2
    subst e0 e1 e2
    refine ⟨(x0, x1, x2), w0, w1, ?_, ?_, ?_⟩
    ·have k0 := hcell 0 (by simp); rw [add_add] at k0; simpa using k0
    ·have k0 := hcell 1 (by simp); rw [add_add] at k0; simpa using k0
    ·have k0 := hcell 2 (by simp); rw [add_add] at k0; simpa using k0
  obtain ⟨f, hf2⟩ := choose_lt key
  refine ⟨some a', len', m, fun i => (f i).1, fun i => (f i).2.1, fun i => (f i).2.2, hcs, hm, hl, fun i h => ⟨(hf2 i (by omega)).1, (hf2 i (by omega)).2.1⟩, fun h0 => ?_⟩
  have k0 := (hf2 0 (by omega)).2.2.1
  obtain ⟨b, off, spot⟩ := a'
  have hspot : spot = none := by simpa [Addr.add] using World.cell?_spot k0
  subst hspot
  refine ⟨b, off, rfl, ?_, fun i hin => ?_⟩
  ·have := block_lt_of_cell k0
   simpa [Addr.add] using this
  ·have k := (hf2 i (by omega)).2.2
   rw [Addr.add_lit, Addr.add_lit, Addr.add_lit] at k
   exact k
theorem wf_64 {n : Int} (h : (Lit.int .i64 n).wf = true) : In64 n := bounds_i64 h
end
end Go.Proofs.YtmdjnamkbekjkaaGreatDoor
