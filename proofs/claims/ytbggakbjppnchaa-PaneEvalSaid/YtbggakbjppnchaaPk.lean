/- A pane that came in, as a walk wants it. -/
import Derived.Test.YtbggakbjppnchaaPb
import Derived.Deep.Slices
import Derived.ChangeSame
import Derived.Lib.SmallJoins
namespace Go.Proofs.Ytbggakbjppnchaa
open Go.RowKit Go.ChangeShapes Go.WideShapes Go.Deep Go.Joins
set_option linter.unusedVariables false

instance : Inhabited Sl := ⟨⟨none, 0, 0, fun _ => 0⟩⟩
theorem nums_of {H : Type} {enc : TypeId × Value → H} {w : World} {v : Value} {y : DataW H × List MemPlace} {fuel : Nat} {t e : TypeId}
    (ht : Try.prog.underlying t = some (.slice e)) (he : Try.prog.underlying e = some (.int .i64)) (hc : Try.prog.cellsOf e = 1)
    (hf : DataW.trod enc Try.prog w 0 (fun _ => true) true fuel t [v] = some y) : ∃ s : Sl, v = .slice s.a s.n s.c ∧ Nums w.heap.size w s := by
  rcases open_ints ht he hc hf with ⟨hcs, _⟩ | ⟨a', len', cap', zs, hcs, _, hl, hm, hz, _, hcell, hwz⟩
  · simp at hcs
    exact ⟨⟨none, 0, 0, fun _ => 0⟩, hcs, ⟨by show 0 ≤ maxLen; unfold maxLen; omega, Nat.le_refl _, fun i h => absurd h (by show ¬ i < 0; omega), fun h => absurd h (by show ¬ 0 < 0; omega)⟩⟩
  · simp at hcs
    simp only [if_true] at hz
    refine ⟨⟨some a', len', cap', fun i => zs.getD i 0⟩, hcs, ⟨hm, hl, fun i hi => ?_, fun h0 => ?_⟩⟩
    · have hi' : i < len' := hi
      have hil : i < zs.length := by omega
      have : zs.getD i 0 = zs[i] := by rw [List.getD_eq_getElem?_getD, List.getElem?_eq_getElem hil]; rfl
      show (Lit.int .i64 (zs.getD i 0)).wf = true
      rw [this]; exact hwz _ (List.getElem_mem hil)
    · have h0' : 0 < len' := h0
      have c0 := hcell 0 (by omega)
      obtain ⟨b, off, spot⟩ := a'
      have hspot : spot = none := by simpa [Addr.add] using World.cell?_spot c0
      subst hspot
      refine ⟨b, off, rfl, ?_, fun i hi => ?_⟩
      · have := block_lt_of_cell c0
        simpa [Addr.add] using this
      · have hi' : i < len' := hi
        have ci := hcell i (by omega)
        have e2 : (⟨b, off, none⟩ : Addr).add i = ⟨b, off + i, none⟩ := by simp [Addr.add]
        rw [← e2]; exact ci
theorem pan_of {H : Type} {enc : TypeId × Value → H} {w : World} {v : Value} {d : DataW H} {ps : List MemPlace} {rr : Reach} {b0 : Nat} {t ts tr e : TypeId} {f0 f1 f2 : Field}
    (hs : Try.prog.underlying t = some (.struct #[f0, f1, f2])) (hone : oneCellFields Try.prog #[f0, f1, f2] = true) (hC : Try.prog.cellsOf t = 3)
    (h0 : f0.type = ts) (h1 : f1.type = ts) (h2 : f2.type = tr) (ht : Try.prog.underlying ts = some (.slice e)) (hr : Try.prog.underlying tr = some (.slice ts)) (he : Try.prog.underlying e = some (.int .i64)) (hc : Try.prog.cellsOf e = 1) (hcs : Try.prog.cellsOf ts = 1)
    (hv : Value.okWide Try.prog w rr b0 t v) (h : DataW.Trod enc Try.prog w 0 (fun _ => true) true t v d ps) :
    ∃ p : Pn, v = .agg #[.slice p.x.a p.x.n p.x.c, .slice p.y.a p.y.n p.y.c, .slice p.a p.n p.c] ∧ Pan w.heap.size w p := by
  obtain ⟨v0, v1, v2, y0, y1, y2, n, rfl, -, -, g0, g1, g2⟩ := open_agg3 hs hone hC hv h
  rw [h0] at g0
  rw [h1] at g1
  rw [h2] at g2
  obtain ⟨x, rfl, X⟩ := nums_of ht he hc g0
  obtain ⟨y, rfl, Y⟩ := nums_of ht he hc g1
  rcases open_slice hr g2 with ⟨hcs', _⟩ | ⟨a, len, cap, m, n', D, Pl, hcs', _, hl, hm, hmm, _, hi⟩
  · simp at hcs'
    subst hcs'
    exact ⟨⟨x, y, none, 0, 0, fun _ => default⟩, rfl, ⟨X, Y, by show 0 ≤ maxLen; unfold maxLen; omega, Nat.le_refl _, fun h => absurd h (by show ¬ 0 < 0; omega), fun i h => absurd h (by show ¬ i < 0; omega)⟩⟩
  · simp at hcs'
    subst hcs'
    simp only [if_true] at hmm
    subst hmm
    rw [hcs] at hi
    have key : ∀ i, i < m → ∃ s : Sl, w.cell? (a.add i) = some (.slice s.a s.n s.c) ∧ Nums w.heap.size w s := fun i him => by
      obtain ⟨cs', hcc, hd⟩ := hi i him
      obtain ⟨_, hlen, hat⟩ := World.cells?_some hcc
      have k0 := hat 0 (by omega)
      obtain ⟨u, rfl⟩ : ∃ u, cs' = [u] := by
        match cs', hlen with
        | [u], _ => exact ⟨u, rfl⟩
      obtain ⟨s, rfl, S⟩ := nums_of ht he hc hd
      refine ⟨s, ?_, S⟩
      have r : (a.add (i * 1)).add 0 = a.add i := by rw [add_add]; simp
      rw [r] at k0
      simpa using k0
    obtain ⟨r, hr2⟩ := choose_lt key
    refine ⟨⟨x, y, some a, len, m, r⟩, rfl, ⟨X, Y, hm, hl, fun hl0 => ?_, fun i hi' => (hr2 i (by have : i < len := hi'; omega)).2⟩⟩
    have hl0' : 0 < len := hl0
    have c0 := (hr2 0 (by omega)).1
    obtain ⟨b, off, spot⟩ := a
    have hspot : spot = none := by simpa [Addr.add] using World.cell?_spot c0
    subst hspot
    refine ⟨b, off, rfl, ?_, fun i hi' => ?_⟩
    · have := block_lt_of_cell c0
      simpa [Addr.add] using this
    · have hi'' : i < len := hi'
      have ci := (hr2 i (by omega)).1
      have e2 : (⟨b, off, none⟩ : Addr).add i = ⟨b, off + i, none⟩ := by simp [Addr.add]
      rw [← e2]; exact ci
/-- the opening serves api.Pane -/
theorem pan_api {H : Type} {enc : TypeId × Value → H} {w : World} {v : Value} {d : DataW H} {ps : List MemPlace} {rr : Reach} {b0 : Nat} (hv : Value.okWide Try.prog w rr b0 25 v) (h : DataW.Trod enc Try.prog w 0 (fun _ => true) true 25 v d ps) :
    ∃ p : Pn, v = .agg #[.slice p.x.a p.x.n p.x.c, .slice p.y.a p.y.n p.y.c, .slice p.a p.n p.c] ∧ Pan w.heap.size w p :=
  pan_of Try.underlying25 (by kernel_rfl) (by kernel_rfl) rfl rfl rfl Try.underlying22 Try.underlying23 Try.underlying27 (by kernel_rfl) (by kernel_rfl) hv h
end Go.Proofs.Ytbggakbjppnchaa
