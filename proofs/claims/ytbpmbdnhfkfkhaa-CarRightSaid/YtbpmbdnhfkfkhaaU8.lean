/- A car that came in, as a walk wants it. -/
import Derived.Test.YtbpmbdnhfkfkhaaU7
import Derived.Test.YtbpmbdnhfkfkhaaPz
import Derived.ChangeArms
import Derived.Deep.Slices
import Derived.ChangeSame
import Derived.Lib.SmallJoins
namespace Go.Proofs.Ytbpmbdnhfkfkhaa
open Go.RowKit Go.ChangeShapes Go.WideShapes Go.Deep Go.Joins
set_option linter.unusedVariables false
set_option linter.unusedSimpArgs false

theorem tk_at {α : Type} {l : List α} {o n j : Nat} {v : α} (h : ((l.drop o).take n)[j]? = some v) : l[o + j]? = some v := by
  rw [List.getElem?_take] at h
  split at h
  · rw [List.getElem?_drop] at h; exact h
  · cases h
theorem tk_one {α : Type} {l : List α} {o n : Nat} {v : α} (h : (l.drop o).take n = [v]) : l[o]? = some v := by
  have : ((l.drop o).take n)[0]? = some v := by rw [h]; rfl
  exact tk_at this
theorem list_of : ∀ (l : List Value) (d : Value), l = (List.range l.length).map (fun k => l.getD k d) := fun l d => by
  apply List.ext_getElem?
  intro i
  by_cases h : i < l.length
  · rw [List.getElem?_map, List.getElem?_range h, List.getElem?_eq_getElem h]
    show _ = some (l.getD i d)
    rw [List.getD_eq_getElem?_getD, List.getElem?_eq_getElem h]
    rfl
  · rw [List.getElem?_eq_none (by omega), List.getElem?_eq_none (by simp; omega)]
def boolV : Value → Bool | .bool b => b | _ => false
section
variable {H : Type} {enc : TypeId × Value → H} {P : Program} {w : World} {base : Nat} {spare : Nat → Bool} {held : Bool}
/-- one field of a struct, inside a list of cells -/
theorem trodF {fs : Array Field} {xs : List (DataW H × List MemPlace)} {n : Nat} {cs : List Value} (hh : ∀ (i : Nat) (f : Field), fs[i]? = some f → DataW.trod enc P w base spare held n f.type ((cs.drop f.offset).take (P.cellsOf f.type)) = xs[i]?)
    (i : Nat) {f : Field} (hf : fs[i]? = some f) (hi : i < xs.length) {o k : Nat} {ty : TypeId} (hx : (f.offset, P.cellsOf f.type, f.type) = (o, k, ty)) : ∃ y, DataW.trod enc P w base spare held n ty ((cs.drop o).take k) = some y := by
  simp only [Prod.mk.injEq] at hx
  obtain ⟨rfl, rfl, rfl⟩ := hx
  exact ⟨xs[i], (hh i f hf).trans (List.getElem?_eq_getElem hi)⟩
theorem trodI {k : IntKind} {t : TypeId} {fuel o : Nat} {cs : List Value} {x : DataW H × List MemPlace} (ht : P.underlying t = some (.int k)) (h : DataW.trod enc P w base spare held fuel t ((cs.drop o).take 1) = some x) : ∃ n, cs[o]? = some (.int k n) ∧ (Lit.int k n).wf = true := by
  obtain ⟨n, e, _, wf⟩ := DataW.trod_int ht h
  exact ⟨n, tk_one e, wf⟩
theorem trodB {t : TypeId} {fuel o : Nat} {cs : List Value} {x : DataW H × List MemPlace} (ht : P.underlying t = some .bool) (h : DataW.trod enc P w base spare held fuel t ((cs.drop o).take 1) = some x) : ∃ b, cs[o]? = some (.bool b) := by
  obtain ⟨n, e, _⟩ := DataW.trod_bool ht h
  exact ⟨n, tk_one e⟩
theorem slice_one {fuel : Nat} {t e : TypeId} {cs : List Value} {x : DataW H × List MemPlace} (ht : P.underlying t = some (.slice e)) (h : DataW.trod enc P w base spare held fuel t cs = some x) : ∃ v, cs = [v] := by
  rcases open_slice ht h with ⟨hcs, _⟩ | ⟨a, len, cap, m, n', D, Pl, hcs, _⟩
  · exact ⟨_, hcs⟩
  · exact ⟨_, hcs⟩
end
/-- a pane's three cells -/
theorem pan_parts {H : Type} {enc : TypeId × Value → H} {w : World} {v0 v1 v2 : Value} {fuel : Nat} {y0 y1 y2 : DataW H × List MemPlace} {ts tr e : TypeId}
    (ht : Try.prog.underlying ts = some (.slice e)) (hr : Try.prog.underlying tr = some (.slice ts)) (he : Try.prog.underlying e = some (.int .i64)) (hc : Try.prog.cellsOf e = 1) (hcs : Try.prog.cellsOf ts = 1)
    (g0 : DataW.trod enc Try.prog w 0 (fun _ => true) true fuel ts [v0] = some y0) (g1 : DataW.trod enc Try.prog w 0 (fun _ => true) true fuel ts [v1] = some y1) (g2 : DataW.trod enc Try.prog w 0 (fun _ => true) true fuel tr [v2] = some y2) :
    ∃ p : Pn, v0 = .slice p.x.a p.x.n p.x.c ∧ v1 = .slice p.y.a p.y.n p.y.c ∧ v2 = .slice p.a p.n p.c ∧ Pan w.heap.size w p := by
  obtain ⟨x, rfl, X⟩ := nums_of ht he hc g0
  obtain ⟨y, rfl, Y⟩ := nums_of ht he hc g1
  rcases open_slice hr g2 with ⟨hcs', _⟩ | ⟨a, len, cap, m, n', D, Pl, hcs', _, hl, hm, hmm, _, hi⟩
  · simp at hcs'
    subst hcs'
    exact ⟨⟨x, y, none, 0, 0, fun _ => ⟨none, 0, 0, fun _ => 0⟩⟩, rfl, rfl, rfl, ⟨X, Y, by show 0 ≤ maxLen; unfold maxLen; omega, Nat.le_refl _, fun h => absurd h (by show ¬ 0 < 0; omega), fun i h => absurd h (by show ¬ i < 0; omega)⟩⟩
  · simp at hcs'
    subst hcs'
    simp only [if_true] at hmm
    subst hmm
    rw [hcs] at hi
    have key : ∀ i, i < m → ∃ s : Sl, w.cell? (a.add i) = some (.slice s.a s.n s.c) ∧ Nums w.heap.size w s := fun i him => by
      obtain ⟨cs', hcc, hd⟩ := hi i him
      obtain ⟨_, hlen, hat⟩ := World.cells?_some hcc
      have k0 := hat 0 (by omega)
      obtain ⟨u, rfl⟩ : ∃ u, cs' = [u] := by
        match cs', hlen with
        | [u], _ => exact ⟨u, rfl⟩
      obtain ⟨s, rfl, S⟩ := nums_of ht he hc hd
      refine ⟨s, ?_, S⟩
      have r : (a.add (i * 1)).add 0 = a.add i := by rw [add_add]; simp
      rw [r] at k0
      simpa using k0
    haveI : Inhabited Sl := ⟨⟨none, 0, 0, fun _ => 0⟩⟩
    obtain ⟨r, hr2⟩ := choose_lt key
    refine ⟨⟨x, y, some a, len, m, r⟩, rfl, rfl, rfl, ⟨X, Y, hm, hl, fun hl0 => ?_, fun i hi' => (hr2 i (by have : i < len := hi'; omega)).2⟩⟩
    have hl0' : 0 < len := hl0
    have c0 := (hr2 0 (by omega)).1
    obtain ⟨b, off, spot⟩ := a
    have hspot : spot = none := by simpa [Addr.add] using World.cell?_spot c0
    subst hspot
    refine ⟨b, off, rfl, ?_, fun i hi' => ?_⟩
    · have := block_lt_of_cell c0
      simpa [Addr.add] using this
    · have hi'' : i < len := hi'
      have ci := (hr2 i (by omega)).1
      have e2 : (⟨b, off, none⟩ : Addr).add i = ⟨b, off + i, none⟩ := by simp [Addr.add]
      rw [← e2]; exact ci
/-- a table's cell -/
theorem dz_of {H : Type} {enc : TypeId × Value → H} {P : Program} {w : World} {v : Value} {y : DataW H × List MemPlace} {fuel : Nat} {t e : TypeId} {f0 f1 : Field}
    (ht : P.underlying t = some (.slice e)) (he : P.underlying e = some (.struct #[f0, f1])) (hk0 : P.underlying f0.type = some (.int .i64)) (hk1 : P.underlying f1.type = some (.int .i64))
    (ho : (f0.offset, f1.offset, P.cellsOf f0.type, P.cellsOf f1.type, P.cellsOf e) = (0, 1, 1, 1, 2))
    (hf : DataW.trod enc P w 0 (fun _ => true) true fuel t [v] = some y) : ∃ s : Dz, v = .slice s.a s.n s.c ∧ DzM w.heap.size w s := by
  simp only [Prod.mk.injEq] at ho
  obtain ⟨o0, o1, c0, c1, h2⟩ := ho
  rcases open_slice ht hf with ⟨hcs, _⟩ | ⟨a', len', cap', m, n, D, Pl, hcs, _, hl, hm, hmm, _, hi⟩
  · simp at hcs
    exact ⟨⟨none, 0, 0, fun _ => 0, fun _ => 0⟩, hcs, by show 0 ≤ maxLen; unfold maxLen; omega, Nat.le_refl _, fun i h => absurd h (by show ¬ i < 0; omega), fun h => absurd h (by show ¬ 0 < 0; omega)⟩
  · simp at hcs
    simp only [if_true] at hmm
    subst hmm
    have key : ∀ i, i < m → ∃ q : Int × Int, (Lit.int .i64 q.1).wf = true ∧ (Lit.int .i64 q.2).wf = true ∧ w.cell? (a'.add (i * 2)) = some (.int .i64 q.1) ∧ w.cell? (a'.add (i * 2 + 1)) = some (.int .i64 q.2) := by
      intro i hin
      obtain ⟨cs, hc, hd⟩ := hi i hin
      rw [h2] at hc
      obtain ⟨xs, q, _, _, hlen, hxl, hh⟩ := DataW.trod_struct he hd
      have hxl : xs.length = 2 := hxl
      obtain ⟨z0, g0⟩ := trodF hh 0 (f := f0) rfl (by omega) (o := 0) (k := 1) (ty := f0.type) (by rw [o0, c0])
      obtain ⟨z1, g1⟩ := trodF hh 1 (f := f1) rfl (by omega) (o := 1) (k := 1) (ty := f1.type) (by rw [o1, c1])
      obtain ⟨x0, e0, w0⟩ := trodI hk0 g0
      obtain ⟨x1, e1, w1⟩ := trodI hk1 g1
      have hcell := (World.cells?_some hc).2.2
      have hl2 : cs.length = 2 := by omega
      match cs, hl2 with
      | [v0, v1], _ =>
        simp at e0 e1
        subst e0 e1
        refine ⟨(x0, x1), w0, w1, ?_, ?_⟩
        · have k0 := hcell 0 (by simp); rw [add_add] at k0; simpa using k0
        · have k0 := hcell 1 (by simp); rw [add_add] at k0; simpa using k0
    obtain ⟨f, hf2⟩ := choose_lt key
    refine ⟨⟨some a', len', m, fun i => (f i).1, fun i => (f i).2⟩, hcs, hm, hl, fun i h => ?_, fun h0 => ?_⟩
    · have h' : i < len' := h
      exact ⟨(hf2 i (by omega)).1, (hf2 i (by omega)).2.1⟩
    have h0' : 0 < len' := h0
    have k0 := (hf2 0 (by omega)).2.2.1
    obtain ⟨b, off, spot⟩ := a'
    have hspot : spot = none := by simpa [Addr.add] using World.cell?_spot k0
    subst hspot
    refine ⟨b, off, rfl, ?_, fun i hin => ?_⟩
    · have := block_lt_of_cell k0
      simpa [Addr.add] using this
    · have hin' : i < len' := hin
      have k := (hf2 i (by omega)).2.2
      rw [Addr.add_lit, Addr.add_lit] at k
      exact k
end Go.Proofs.Ytbpmbdnhfkfkhaa
namespace Go.Proofs.Ytbpmbdnhfkfkhaa
open Go.RowKit Go.ChangeShapes Go.WideShapes Go.Deep Go.Joins
set_option linter.unusedVariables false
set_option linter.unusedSimpArgs false

section
variable {H : Type} {enc : TypeId × Value → H} {w : World}
/-- a number is a cell -/
def IsI (k : IntKind) (l : List Value) (o : Nat) : Prop := ∃ n, l[o]? = some (.int k n) ∧ In64 n ∧ (k = .u32 → 0 ≤ n)
def IsB (l : List Value) (o : Nat) : Prop := ∃ b, l[o]? = some (.bool b)
theorem wf_32 {n : Int} (h : (Lit.int .u32 n).wf = true) : In64 n ∧ 0 ≤ n := by
  have h2 : IntKind.u32.min ≤ n ∧ n ≤ IntKind.u32.max := by simpa [Lit.wf] using h
  have : 0 ≤ n ∧ n ≤ 4294967295 := h2
  unfold In64
  omega
theorem isI_64 {t : TypeId} {fuel o : Nat} {cs : List Value} {x : DataW H × List MemPlace} (ht : Try.prog.underlying t = some (.int .i64)) (h : DataW.trod enc Try.prog w 0 (fun _ => true) true fuel t ((cs.drop o).take 1) = some x) : IsI .i64 cs o := by
  obtain ⟨n, e, wf⟩ := trodI ht h
  exact ⟨n, e, bounds_i64 wf, fun k => by cases k⟩
theorem isI_32 {t : TypeId} {fuel o : Nat} {cs : List Value} {x : DataW H × List MemPlace} (ht : Try.prog.underlying t = some (.int .u32)) (h : DataW.trod enc Try.prog w 0 (fun _ => true) true fuel t ((cs.drop o).take 1) = some x) : IsI .u32 cs o := by
  obtain ⟨n, e, wf⟩ := trodI ht h
  exact ⟨n, e, (wf_32 wf).1, fun _ => (wf_32 wf).2⟩
theorem IsI.up {k : IntKind} {l : List Value} {o n j : Nat} (h : IsI k ((l.drop o).take n) j) : IsI k l (o + j) := by
  obtain ⟨x, e, r⟩ := h
  exact ⟨x, tk_at e, r⟩
theorem IsB.up {l : List Value} {o n j : Nat} (h : IsB ((l.drop o).take n) j) : IsB l (o + j) := by
  obtain ⟨x, e⟩ := h
  exact ⟨x, tk_at e⟩
theorem v3_cells {fuel : Nat} {cs : List Value} {x : DataW H × List MemPlace} (h : DataW.trod enc Try.prog w 0 (fun _ => true) true fuel 24 cs = some x) : IsI .i64 cs 0 ∧ IsI .i64 cs 1 ∧ IsI .i64 cs 2 := by
  obtain ⟨xs, n, _, _, _, hxl, hh⟩ := DataW.trod_struct Try.underlying24 h
  have hxl : xs.length = 3 := hxl
  obtain ⟨z0, g0⟩ := trodF hh 0 rfl (by omega) (o := 0) (k := 1) (ty := 22) (by kernel_rfl)
  obtain ⟨z1, g1⟩ := trodF hh 1 rfl (by omega) (o := 1) (k := 1) (ty := 22) (by kernel_rfl)
  obtain ⟨z2, g2⟩ := trodF hh 2 rfl (by omega) (o := 2) (k := 1) (ty := 22) (by kernel_rfl)
  exact ⟨isI_64 Try.underlying22 g0, isI_64 Try.underlying22 g1, isI_64 Try.underlying22 g2⟩
theorem wheel_cells {fuel : Nat} {cs : List Value} {x : DataW H × List MemPlace} (h : DataW.trod enc Try.prog w 0 (fun _ => true) true fuel 26 cs = some x) :
    (IsI .i64 cs 0 ∧ IsI .i64 cs 1 ∧ IsI .i64 cs 2) ∧ (IsI .i64 cs 3 ∧ IsI .i64 cs 4 ∧ IsI .i64 cs 5 ∧ IsI .i64 cs 6 ∧ IsI .i64 cs 7) ∧ IsB cs 8 ∧ IsB cs 9 := by
  obtain ⟨xs, n, _, _, _, hxl, hh⟩ := DataW.trod_struct Try.underlying26 h
  have hxl : xs.length = 8 := hxl
  obtain ⟨z0, g0⟩ := trodF hh 0 rfl (by omega) (o := 0) (k := 3) (ty := 24) (by kernel_rfl)
  obtain ⟨z1, g1⟩ := trodF hh 1 rfl (by omega) (o := 3) (k := 1) (ty := 22) (by kernel_rfl)
  obtain ⟨z2, g2⟩ := trodF hh 2 rfl (by omega) (o := 4) (k := 1) (ty := 22) (by kernel_rfl)
  obtain ⟨z3, g3⟩ := trodF hh 3 rfl (by omega) (o := 5) (k := 1) (ty := 22) (by kernel_rfl)
  obtain ⟨z4, g4⟩ := trodF hh 4 rfl (by omega) (o := 6) (k := 1) (ty := 22) (by kernel_rfl)
  obtain ⟨z5, g5⟩ := trodF hh 5 rfl (by omega) (o := 7) (k := 1) (ty := 22) (by kernel_rfl)
  obtain ⟨z6, g6⟩ := trodF hh 6 rfl (by omega) (o := 8) (k := 1) (ty := 4) (by kernel_rfl)
  obtain ⟨z7, g7⟩ := trodF hh 7 rfl (by omega) (o := 9) (k := 1) (ty := 4) (by kernel_rfl)
  obtain ⟨a, b, c⟩ := v3_cells g0
  obtain ⟨p, hp⟩ := trodB Try.underlying4 g6
  obtain ⟨q, hq⟩ := trodB Try.underlying4 g7
  refine ⟨⟨?_, ?_, ?_⟩, ⟨isI_64 Try.underlying22 g1, isI_64 Try.underlying22 g2, isI_64 Try.underlying22 g3, isI_64 Try.underlying22 g4, isI_64 Try.underlying22 g5⟩, ⟨p, hp⟩, ⟨q, hq⟩⟩
  · have := a.up; exact this
  · have := b.up; exact this
  · have := c.up; exact this
end
theorem IsI.q {k : IntKind} {l : List Value} {o : Nat} (h : IsI k l o) (d : Value) : Value.int k (intOf (l.getD o d)) = l.getD o d ∧ In64 (intOf (l.getD o d)) ∧ (k = .u32 → 0 ≤ intOf (l.getD o d)) := by
  obtain ⟨n, e, r1, r2⟩ := h
  rw [List.getD_eq_getElem?_getD, e]
  exact ⟨rfl, r1, r2⟩
theorem IsB.q {l : List Value} {o : Nat} (h : IsB l o) (d : Value) : Value.bool (boolV (l.getD o d)) = l.getD o d ∧ In64 (intOf (l.getD o d)) := by
  obtain ⟨n, e⟩ := h
  rw [List.getD_eq_getElem?_getD, e]
  exact ⟨rfl, by show (-9223372036854775808 : Int) ≤ 0; omega, by show (0 : Int) ≤ 9223372036854775807; omega⟩
theorem sl_q {l : List Value} {o n c : Nat} {a : Option Addr} (e : l[o]? = some (.slice a n c)) (d : Value) : l.getD o d = .slice a n c ∧ In64 (intOf (l.getD o d)) := by
  rw [List.getD_eq_getElem?_getD, e]
  exact ⟨rfl, by show (-9223372036854775808 : Int) ≤ 0; omega, by show (0 : Int) ≤ 9223372036854775807; omega⟩
set_option maxRecDepth 1000000 in
set_option maxHeartbeats 8000000 in
/-- the opening serves api.Car -/
theorem car_api {H : Type} {enc : TypeId × Value → H} {w : World} {v : Value} {d : DataW H} {ps : List MemPlace} {rr : Reach} {b0 : Nat} (hv : Value.okWide Try.prog w rr b0 37 v) (h : DataW.Trod enc Try.prog w 0 (fun _ => true) true 37 v d ps) :
    ∃ c : Cr, v = .agg (carL c).toArray ∧ CrM w.heap.size w c ∧ CrW c := by
  obtain ⟨cs, rfl, hsz⟩ := okWide_struct Try.underlying37 hv
  have hsz : cs.size = 76 := hsz.trans (by kernel_rfl)
  obtain ⟨l⟩ := cs
  have hl : l.length = 76 := hsz
  obtain ⟨fuel, hf⟩ := h
  obtain ⟨xs, n, _, _, _, hxl, hh⟩ := DataW.trod_struct (cs := l) Try.underlying37 hf
  have hxl : xs.length = 32 := hxl
  obtain ⟨z0, g0⟩ := trodF hh 0 rfl (by omega) (o := 0) (k := 1) (ty := 22) (by kernel_rfl)
  obtain ⟨z1, g1⟩ := trodF hh 1 rfl (by omega) (o := 1) (k := 3) (ty := 24) (by kernel_rfl)
  obtain ⟨z2, g2⟩ := trodF hh 2 rfl (by omega) (o := 4) (k := 40) (ty := 27) (by kernel_rfl)
  obtain ⟨z3, g3⟩ := trodF hh 3 rfl (by omega) (o := 44) (k := 2) (ty := 28) (by kernel_rfl)
  obtain ⟨z4, g4⟩ := trodF hh 4 rfl (by omega) (o := 46) (k := 1) (ty := 29) (by kernel_rfl)
  obtain ⟨z5, g5⟩ := trodF hh 5 rfl (by omega) (o := 47) (k := 3) (ty := 33) (by kernel_rfl)
  obtain ⟨z6, g6⟩ := trodF hh 6 rfl (by omega) (o := 50) (k := 1) (ty := 29) (by kernel_rfl)
  obtain ⟨z7, g7⟩ := trodF hh 7 rfl (by omega) (o := 51) (k := 1) (ty := 29) (by kernel_rfl)
  obtain ⟨z8, g8⟩ := trodF hh 8 rfl (by omega) (o := 52) (k := 1) (ty := 22) (by kernel_rfl)
  obtain ⟨z9, g9⟩ := trodF hh 9 rfl (by omega) (o := 53) (k := 1) (ty := 22) (by kernel_rfl)
  obtain ⟨z10, g10⟩ := trodF hh 10 rfl (by omega) (o := 54) (k := 1) (ty := 22) (by kernel_rfl)
  obtain ⟨z11, g11⟩ := trodF hh 11 rfl (by omega) (o := 55) (k := 1) (ty := 22) (by kernel_rfl)
  obtain ⟨z12, g12⟩ := trodF hh 12 rfl (by omega) (o := 56) (k := 1) (ty := 22) (by kernel_rfl)
  obtain ⟨z13, g13⟩ := trodF hh 13 rfl (by omega) (o := 57) (k := 1) (ty := 22) (by kernel_rfl)
  obtain ⟨z14, g14⟩ := trodF hh 14 rfl (by omega) (o := 58) (k := 1) (ty := 22) (by kernel_rfl)
  obtain ⟨z15, g15⟩ := trodF hh 15 rfl (by omega) (o := 59) (k := 1) (ty := 22) (by kernel_rfl)
  obtain ⟨z16, g16⟩ := trodF hh 16 rfl (by omega) (o := 60) (k := 1) (ty := 30) (by kernel_rfl)
  obtain ⟨z17, g17⟩ := trodF hh 17 rfl (by omega) (o := 61) (k := 1) (ty := 22) (by kernel_rfl)
  obtain ⟨z18, g18⟩ := trodF hh 18 rfl (by omega) (o := 62) (k := 1) (ty := 3) (by kernel_rfl)
  obtain ⟨z19, g19⟩ := trodF hh 19 rfl (by omega) (o := 63) (k := 1) (ty := 22) (by kernel_rfl)
  obtain ⟨z20, g20⟩ := trodF hh 20 rfl (by omega) (o := 64) (k := 1) (ty := 22) (by kernel_rfl)
  obtain ⟨z21, g21⟩ := trodF hh 21 rfl (by omega) (o := 65) (k := 1) (ty := 22) (by kernel_rfl)
  obtain ⟨z22, g22⟩ := trodF hh 22 rfl (by omega) (o := 66) (k := 1) (ty := 22) (by kernel_rfl)
  obtain ⟨z23, g23⟩ := trodF hh 23 rfl (by omega) (o := 67) (k := 1) (ty := 35) (by kernel_rfl)
  obtain ⟨z24, g24⟩ := trodF hh 24 rfl (by omega) (o := 68) (k := 1) (ty := 35) (by kernel_rfl)
  obtain ⟨z25, g25⟩ := trodF hh 25 rfl (by omega) (o := 69) (k := 1) (ty := 22) (by kernel_rfl)
  obtain ⟨z26, g26⟩ := trodF hh 26 rfl (by omega) (o := 70) (k := 1) (ty := 22) (by kernel_rfl)
  obtain ⟨z27, g27⟩ := trodF hh 27 rfl (by omega) (o := 71) (k := 1) (ty := 22) (by kernel_rfl)
  obtain ⟨z28, g28⟩ := trodF hh 28 rfl (by omega) (o := 72) (k := 1) (ty := 22) (by kernel_rfl)
  obtain ⟨z29, g29⟩ := trodF hh 29 rfl (by omega) (o := 73) (k := 1) (ty := 22) (by kernel_rfl)
  obtain ⟨z30, g30⟩ := trodF hh 30 rfl (by omega) (o := 74) (k := 1) (ty := 22) (by kernel_rfl)
  obtain ⟨z31, g31⟩ := trodF hh 31 rfl (by omega) (o := 75) (k := 1) (ty := 22) (by kernel_rfl)
  have c0 := isI_64 Try.underlying22 g0
  have c52 := isI_64 Try.underlying22 g8
  have c53 := isI_64 Try.underlying22 g9
  have c54 := isI_64 Try.underlying22 g10
  have c55 := isI_64 Try.underlying22 g11
  have c56 := isI_64 Try.underlying22 g12
  have c57 := isI_64 Try.underlying22 g13
  have c58 := isI_64 Try.underlying22 g14
  have c59 := isI_64 Try.underlying22 g15
  have c61 := isI_64 Try.underlying22 g17
  have c62 := isI_64 Try.underlying3 g18
  have c63 := isI_64 Try.underlying22 g19
  have c64 := isI_64 Try.underlying22 g20
  have c65 := isI_64 Try.underlying22 g21
  have c66 := isI_64 Try.underlying22 g22
  have c67 := isI_32 Try.underlying35 g23
  have c68 := isI_32 Try.underlying35 g24
  have c69 := isI_64 Try.underlying22 g25
  have c70 := isI_64 Try.underlying22 g26
  have c71 := isI_64 Try.underlying22 g27
  have c72 := isI_64 Try.underlying22 g28
  have c73 := isI_64 Try.underlying22 g29
  have c74 := isI_64 Try.underlying22 g30
  have c75 := isI_64 Try.underlying22 g31
  obtain ⟨d1, d2, d3⟩ := v3_cells g1
  have c1 : IsI .i64 l 1 := d1.up
  have c2 : IsI .i64 l 2 := d2.up
  have c3 : IsI .i64 l 3 := d3.up
  obtain ⟨ws, mw, _, _, _, hwl, hw⟩ := DataW.trod_array Try.underlying27 g2
  have c10 : Try.prog.cellsOf 26 = 10 := by kernel_rfl
  rw [c10] at hw
  have hw0 := hw 0 (by omega)
  rw [List.getElem?_eq_getElem (by omega)] at hw0
  obtain ⟨⟨a0, a1, a2⟩, ⟨a3, a4, a5, a6, a7⟩, a8, a9⟩ := wheel_cells hw0
  have c4 : IsI .i64 l 4 := a0.up.up
  have c5 : IsI .i64 l 5 := a1.up.up
  have c6 : IsI .i64 l 6 := a2.up.up
  have c7 : IsI .i64 l 7 := a3.up.up
  have c8 : IsI .i64 l 8 := a4.up.up
  have c9 : IsI .i64 l 9 := a5.up.up
  have c10 : IsI .i64 l 10 := a6.up.up
  have c11 : IsI .i64 l 11 := a7.up.up
  have c12 : IsB l 12 := a8.up.up
  have c13 : IsB l 13 := a9.up.up
  clear a0 a1 a2 a3 a4 a5 a6 a7 a8 a9
  have hw1 := hw 1 (by omega)
  rw [List.getElem?_eq_getElem (by omega)] at hw1
  obtain ⟨⟨a0, a1, a2⟩, ⟨a3, a4, a5, a6, a7⟩, a8, a9⟩ := wheel_cells hw1
  have c14 : IsI .i64 l 14 := a0.up.up
  have c15 : IsI .i64 l 15 := a1.up.up
  have c16 : IsI .i64 l 16 := a2.up.up
  have c17 : IsI .i64 l 17 := a3.up.up
  have c18 : IsI .i64 l 18 := a4.up.up
  have c19 : IsI .i64 l 19 := a5.up.up
  have c20 : IsI .i64 l 20 := a6.up.up
  have c21 : IsI .i64 l 21 := a7.up.up
  have c22 : IsB l 22 := a8.up.up
  have c23 : IsB l 23 := a9.up.up
  clear a0 a1 a2 a3 a4 a5 a6 a7 a8 a9
  have hw2 := hw 2 (by omega)
  rw [List.getElem?_eq_getElem (by omega)] at hw2
  obtain ⟨⟨a0, a1, a2⟩, ⟨a3, a4, a5, a6, a7⟩, a8, a9⟩ := wheel_cells hw2
  have c24 : IsI .i64 l 24 := a0.up.up
  have c25 : IsI .i64 l 25 := a1.up.up
  have c26 : IsI .i64 l 26 := a2.up.up
  have c27 : IsI .i64 l 27 := a3.up.up
  have c28 : IsI .i64 l 28 := a4.up.up
  have c29 : IsI .i64 l 29 := a5.up.up
  have c30 : IsI .i64 l 30 := a6.up.up
  have c31 : IsI .i64 l 31 := a7.up.up
  have c32 : IsB l 32 := a8.up.up
  have c33 : IsB l 33 := a9.up.up
  clear a0 a1 a2 a3 a4 a5 a6 a7 a8 a9
  have hw3 := hw 3 (by omega)
  rw [List.getElem?_eq_getElem (by omega)] at hw3
  obtain ⟨⟨a0, a1, a2⟩, ⟨a3, a4, a5, a6, a7⟩, a8, a9⟩ := wheel_cells hw3
  have c34 : IsI .i64 l 34 := a0.up.up
  have c35 : IsI .i64 l 35 := a1.up.up
  have c36 : IsI .i64 l 36 := a2.up.up
  have c37 : IsI .i64 l 37 := a3.up.up
  have c38 : IsI .i64 l 38 := a4.up.up
  have c39 : IsI .i64 l 39 := a5.up.up
  have c40 : IsI .i64 l 40 := a6.up.up
  have c41 : IsI .i64 l 41 := a7.up.up
  have c42 : IsB l 42 := a8.up.up
  have c43 : IsB l 43 := a9.up.up
  clear a0 a1 a2 a3 a4 a5 a6 a7 a8 a9
  obtain ⟨bs, mb, _, _, _, hbl, hb⟩ := DataW.trod_array Try.underlying28 g3
  have c1' : Try.prog.cellsOf 22 = 1 := by kernel_rfl
  rw [c1'] at hb
  have hb0 := hb 0 (by omega)
  rw [List.getElem?_eq_getElem (by omega)] at hb0
  have hb1 := hb 1 (by omega)
  rw [List.getElem?_eq_getElem (by omega)] at hb1
  have c44 : IsI .i64 l 44 := (isI_64 Try.underlying22 hb0).up
  have c45 : IsI .i64 l 45 := (isI_64 Try.underlying22 hb1).up
  obtain ⟨u4, eu4⟩ := slice_one Try.underlying29 g4
  rw [eu4] at g4
  obtain ⟨sd, esd, Msd⟩ := dz_of Try.underlying29 Try.underlying69 Try.underlying22 Try.underlying22 (by kernel_rfl) g4
  have c46 : l[46]? = some (.slice sd.a sd.n sd.c) := by rw [← esd]; exact tk_one eu4
  obtain ⟨u6, eu6⟩ := slice_one Try.underlying29 g6
  rw [eu6] at g6
  obtain ⟨sq, esq, Msq⟩ := dz_of Try.underlying29 Try.underlying69 Try.underlying22 Try.underlying22 (by kernel_rfl) g6
  have c50 : l[50]? = some (.slice sq.a sq.n sq.c) := by rw [← esq]; exact tk_one eu6
  obtain ⟨u7, eu7⟩ := slice_one Try.underlying29 g7
  rw [eu7] at g7
  obtain ⟨sr, esr, Msr⟩ := dz_of Try.underlying29 Try.underlying69 Try.underlying22 Try.underlying22 (by kernel_rfl) g7
  have c51 : l[51]? = some (.slice sr.a sr.n sr.c) := by rw [← esr]; exact tk_one eu7
  obtain ⟨u16, eu16⟩ := slice_one Try.underlying30 g16
  rw [eu16] at g16
  obtain ⟨sg, esg, Msg⟩ := nums_of Try.underlying30 Try.underlying22 (by kernel_rfl) g16
  have c60 : l[60]? = some (.slice sg.a sg.n sg.c) := by rw [← esg]; exact tk_one eu16
  obtain ⟨pxs, mp, _, _, _, hpl, hp⟩ := DataW.trod_struct Try.underlying33 g5
  have hpl : pxs.length = 3 := hpl
  obtain ⟨y0, p0⟩ := trodF hp 0 rfl (by omega) (o := 0) (k := 1) (ty := 30) (by kernel_rfl)
  obtain ⟨y1, p1⟩ := trodF hp 1 rfl (by omega) (o := 1) (k := 1) (ty := 30) (by kernel_rfl)
  obtain ⟨y2, p2⟩ := trodF hp 2 rfl (by omega) (o := 2) (k := 1) (ty := 31) (by kernel_rfl)
  obtain ⟨q0, eq0⟩ := slice_one Try.underlying30 p0
  obtain ⟨q1, eq1⟩ := slice_one Try.underlying30 p1
  obtain ⟨q2, eq2⟩ := slice_one Try.underlying31 p2
  rw [eq0] at p0
  rw [eq1] at p1
  rw [eq2] at p2
  obtain ⟨pn, ep0, ep1, ep2, Mp⟩ := pan_parts Try.underlying30 Try.underlying31 Try.underlying22 (by kernel_rfl) (by kernel_rfl) p0 p1 p2
  have c47 : l[47]? = some (.slice pn.x.a pn.x.n pn.x.c) := by rw [← ep0]; exact tk_at (o := 47) (j := 0) (tk_one eq0)
  have c48 : l[48]? = some (.slice pn.y.a pn.y.n pn.y.c) := by rw [← ep1]; exact tk_at (o := 47) (j := 1) (tk_one eq1)
  have c49 : l[49]? = some (.slice pn.a pn.n pn.c) := by rw [← ep2]; exact tk_at (o := 47) (j := 2) (tk_one eq2)
  have E := list_of l (.int .i64 0)
  rw [hl] at E
  have E2 : l = [l.getD 0 (.int .i64 0), l.getD 1 (.int .i64 0), l.getD 2 (.int .i64 0), l.getD 3 (.int .i64 0), l.getD 4 (.int .i64 0), l.getD 5 (.int .i64 0), l.getD 6 (.int .i64 0), l.getD 7 (.int .i64 0), l.getD 8 (.int .i64 0), l.getD 9 (.int .i64 0), l.getD 10 (.int .i64 0), l.getD 11 (.int .i64 0), l.getD 12 (.int .i64 0), l.getD 13 (.int .i64 0), l.getD 14 (.int .i64 0), l.getD 15 (.int .i64 0), l.getD 16 (.int .i64 0), l.getD 17 (.int .i64 0), l.getD 18 (.int .i64 0), l.getD 19 (.int .i64 0), l.getD 20 (.int .i64 0), l.getD 21 (.int .i64 0), l.getD 22 (.int .i64 0), l.getD 23 (.int .i64 0), l.getD 24 (.int .i64 0), l.getD 25 (.int .i64 0), l.getD 26 (.int .i64 0), l.getD 27 (.int .i64 0), l.getD 28 (.int .i64 0), l.getD 29 (.int .i64 0), l.getD 30 (.int .i64 0), l.getD 31 (.int .i64 0), l.getD 32 (.int .i64 0), l.getD 33 (.int .i64 0), l.getD 34 (.int .i64 0), l.getD 35 (.int .i64 0), l.getD 36 (.int .i64 0), l.getD 37 (.int .i64 0), l.getD 38 (.int .i64 0), l.getD 39 (.int .i64 0), l.getD 40 (.int .i64 0), l.getD 41 (.int .i64 0), l.getD 42 (.int .i64 0), l.getD 43 (.int .i64 0), l.getD 44 (.int .i64 0), l.getD 45 (.int .i64 0), l.getD 46 (.int .i64 0), l.getD 47 (.int .i64 0), l.getD 48 (.int .i64 0), l.getD 49 (.int .i64 0), l.getD 50 (.int .i64 0), l.getD 51 (.int .i64 0), l.getD 52 (.int .i64 0), l.getD 53 (.int .i64 0), l.getD 54 (.int .i64 0), l.getD 55 (.int .i64 0), l.getD 56 (.int .i64 0), l.getD 57 (.int .i64 0), l.getD 58 (.int .i64 0), l.getD 59 (.int .i64 0), l.getD 60 (.int .i64 0), l.getD 61 (.int .i64 0), l.getD 62 (.int .i64 0), l.getD 63 (.int .i64 0), l.getD 64 (.int .i64 0), l.getD 65 (.int .i64 0), l.getD 66 (.int .i64 0), l.getD 67 (.int .i64 0), l.getD 68 (.int .i64 0), l.getD 69 (.int .i64 0), l.getD 70 (.int .i64 0), l.getD 71 (.int .i64 0), l.getD 72 (.int .i64 0), l.getD 73 (.int .i64 0), l.getD 74 (.int .i64 0), l.getD 75 (.int .i64 0)] := E
  have W : ∀ v ∈ l, In64 (intOf v) := by
    rw [E2]
    simp only [List.forall_mem_cons]
    exact ⟨(c0.q _).2.1, (c1.q _).2.1, (c2.q _).2.1, (c3.q _).2.1, (c4.q _).2.1, (c5.q _).2.1, (c6.q _).2.1, (c7.q _).2.1, (c8.q _).2.1, (c9.q _).2.1, (c10.q _).2.1, (c11.q _).2.1, (c12.q _).2, (c13.q _).2, (c14.q _).2.1, (c15.q _).2.1, (c16.q _).2.1, (c17.q _).2.1, (c18.q _).2.1, (c19.q _).2.1, (c20.q _).2.1, (c21.q _).2.1, (c22.q _).2, (c23.q _).2, (c24.q _).2.1, (c25.q _).2.1, (c26.q _).2.1, (c27.q _).2.1, (c28.q _).2.1, (c29.q _).2.1, (c30.q _).2.1, (c31.q _).2.1, (c32.q _).2, (c33.q _).2, (c34.q _).2.1, (c35.q _).2.1, (c36.q _).2.1, (c37.q _).2.1, (c38.q _).2.1, (c39.q _).2.1, (c40.q _).2.1, (c41.q _).2.1, (c42.q _).2, (c43.q _).2, (c44.q _).2.1, (c45.q _).2.1, (sl_q c46 _).2, (sl_q c47 _).2, (sl_q c48 _).2, (sl_q c49 _).2, (sl_q c50 _).2, (sl_q c51 _).2, (c52.q _).2.1, (c53.q _).2.1, (c54.q _).2.1, (c55.q _).2.1, (c56.q _).2.1, (c57.q _).2.1, (c58.q _).2.1, (c59.q _).2.1, (sl_q c60 _).2, (c61.q _).2.1, (c62.q _).2.1, (c63.q _).2.1, (c64.q _).2.1, (c65.q _).2.1, (c66.q _).2.1, (c67.q _).2.1, (c68.q _).2.1, (c69.q _).2.1, (c70.q _).2.1, (c71.q _).2.1, (c72.q _).2.1, (c73.q _).2.1, (c74.q _).2.1, (c75.q _).2.1, fun v h => absurd h (by simp)⟩
  refine ⟨⟨fun k => intOf (l.getD k (.int .i64 0)), fun k => boolV (l.getD k (.int .i64 0)), sd, pn, sq, sr, sg⟩, ?_, ⟨Msd, Mp, Msq, Msr, Msg⟩, ⟨fun k => ?_, (c67.q _).2.2 rfl, (c68.q _).2.2 rfl, fun i hi => bounds_i64 (Msg.wf i hi)⟩⟩
  · congr 1
    refine congrArg List.toArray (E2.trans ?_)
    unfold carL
    dsimp only
    simp only [(c0.q (.int .i64 0)).1, (c1.q (.int .i64 0)).1, (c2.q (.int .i64 0)).1, (c3.q (.int .i64 0)).1, (c4.q (.int .i64 0)).1, (c5.q (.int .i64 0)).1, (c6.q (.int .i64 0)).1, (c7.q (.int .i64 0)).1, (c8.q (.int .i64 0)).1, (c9.q (.int .i64 0)).1, (c10.q (.int .i64 0)).1, (c11.q (.int .i64 0)).1, (c12.q (.int .i64 0)).1, (c13.q (.int .i64 0)).1, (c14.q (.int .i64 0)).1, (c15.q (.int .i64 0)).1, (c16.q (.int .i64 0)).1, (c17.q (.int .i64 0)).1, (c18.q (.int .i64 0)).1, (c19.q (.int .i64 0)).1, (c20.q (.int .i64 0)).1, (c21.q (.int .i64 0)).1, (c22.q (.int .i64 0)).1, (c23.q (.int .i64 0)).1, (c24.q (.int .i64 0)).1, (c25.q (.int .i64 0)).1, (c26.q (.int .i64 0)).1, (c27.q (.int .i64 0)).1, (c28.q (.int .i64 0)).1, (c29.q (.int .i64 0)).1, (c30.q (.int .i64 0)).1, (c31.q (.int .i64 0)).1, (c32.q (.int .i64 0)).1, (c33.q (.int .i64 0)).1, (c34.q (.int .i64 0)).1, (c35.q (.int .i64 0)).1, (c36.q (.int .i64 0)).1, (c37.q (.int .i64 0)).1, (c38.q (.int .i64 0)).1, (c39.q (.int .i64 0)).1, (c40.q (.int .i64 0)).1, (c41.q (.int .i64 0)).1, (c42.q (.int .i64 0)).1, (c43.q (.int .i64 0)).1, (c44.q (.int .i64 0)).1, (c45.q (.int .i64 0)).1, (sl_q c46 (.int .i64 0)).1, (sl_q c47 (.int .i64 0)).1, (sl_q c48 (.int .i64 0)).1, (sl_q c49 (.int .i64 0)).1, (sl_q c50 (.int .i64 0)).1, (sl_q c51 (.int .i64 0)).1, (c52.q (.int .i64 0)).1, (c53.q (.int .i64 0)).1, (c54.q (.int .i64 0)).1, (c55.q (.int .i64 0)).1, (c56.q (.int .i64 0)).1, (c57.q (.int .i64 0)).1, (c58.q (.int .i64 0)).1, (c59.q (.int .i64 0)).1, (sl_q c60 (.int .i64 0)).1, (c61.q (.int .i64 0)).1, (c62.q (.int .i64 0)).1, (c63.q (.int .i64 0)).1, (c64.q (.int .i64 0)).1, (c65.q (.int .i64 0)).1, (c66.q (.int .i64 0)).1, (c67.q (.int .i64 0)).1, (c68.q (.int .i64 0)).1, (c69.q (.int .i64 0)).1, (c70.q (.int .i64 0)).1, (c71.q (.int .i64 0)).1, (c72.q (.int .i64 0)).1, (c73.q (.int .i64 0)).1, (c74.q (.int .i64 0)).1, (c75.q (.int .i64 0)).1]
  · show In64 (intOf (l.getD k (.int .i64 0)))
    rw [List.getD_eq_getElem?_getD]
    cases e : l[k]? with
    | none => exact ⟨by show (-9223372036854775808 : Int) ≤ 0; omega, by show (0 : Int) ≤ 9223372036854775807; omega⟩
    | some x => exact W x (List.mem_of_getElem? e)
end Go.Proofs.Ytbpmbdnhfkfkhaa
