/- A track that came in with all that hangs on it, as a walk wants it. -/
import Derived.Test.YtllkhgcokbpggaaB6
import Derived.Test.YtllkhgcokbpggaaBo
import Derived.Test.YtllkhgcokbpggaaBp
namespace Go.Proofs.Ytllkhgcokbpggaa
open Go.RowKit Go.ChangeShapes Go.WideShapes Go.Deep Go.Joins
set_option linter.unusedVariables false

instance : Inhabited Ds := ⟨⟨none, 0, 0, fun _ => 0, fun _ => 0⟩⟩
instance : Inhabited Gt := ⟨⟨0, 0, 0, 0, false⟩⟩
/-- a slice of points -/
theorem pts_of {H : Type} {enc : TypeId × Value → H} {P : Program} {w : World} {v : Value} {y : DataW H × List MemPlace} {fuel : Nat} {t e : TypeId} {f0 f1 : Field}
    (ht : P.underlying t = some (.slice e)) (he : P.underlying e = some (.struct #[f0, f1])) (hk0 : P.underlying f0.type = some (.int .i64)) (hk1 : P.underlying f1.type = some (.int .i64))
    (ho : (f0.offset, f1.offset, P.cellsOf f0.type, P.cellsOf f1.type, P.cellsOf e) = (0, 1, 1, 1, 2))
    (hf : DataW.trod enc P w 0 (fun _ => true) true fuel t [v] = some y) : ∃ s : Ds, v = .slice s.a s.n s.c ∧ DsM w.heap.size w s := by
  obtain ⟨a, n, c, rfl⟩ := slice_form ht hf
  obtain ⟨X, Y, D⟩ := dots_of (d := y.1) (ps := y.2) ht he hk0 hk1 ho ⟨fuel, hf⟩
  exact ⟨⟨a, n, c, X, Y⟩, rfl, D.hm, D.hl, fun i hi => ⟨wf_64 (D.wf i hi).1, wf_64 (D.wf i hi).2⟩, fun h0 => D.at' h0⟩
theorem rails_of {H : Type} {enc : TypeId × Value → H} {P : Program} {w : World} {v : Value} {y : DataW H × List MemPlace} {fuel : Nat} {tr t e : TypeId} {f0 f1 : Field}
    (hr : P.underlying tr = some (.slice t)) (ht : P.underlying t = some (.slice e)) (he : P.underlying e = some (.struct #[f0, f1])) (hk0 : P.underlying f0.type = some (.int .i64)) (hk1 : P.underlying f1.type = some (.int .i64))
    (ho : (f0.offset, f1.offset, P.cellsOf f0.type, P.cellsOf f1.type, P.cellsOf e) = (0, 1, 1, 1, 2)) (hcs : P.cellsOf t = 1)
    (hf : DataW.trod enc P w 0 (fun _ => true) true fuel tr [v] = some y) :
    ∃ (a : Option Addr) (len cap : Nat) (R : Nat → Ds), v = .slice a len cap ∧ cap ≤ maxLen ∧ len ≤ cap ∧ (∀ i, i < len → DsM w.heap.size w (R i)) ∧
      (0 < len → ∃ b off, a = some ⟨b, off, none⟩ ∧ b < w.heap.size ∧ ∀ i, i < len → w.cell? ⟨b, off + i, none⟩ = some (.slice (R i).a (R i).n (R i).c)) := by
  rcases open_slice hr hf with ⟨hcs', _⟩ | ⟨a, len, cap, m, n', D, Pl, hcs', _, hl, hm, hmm, _, hi⟩
  · simp at hcs'
    exact ⟨none, 0, 0, fun _ => default, hcs', by unfold maxLen; omega, by omega, fun i h => absurd h (by omega), fun h => absurd h (by omega)⟩
  · simp at hcs'
    simp only [if_true] at hmm
    subst hmm
    rw [hcs] at hi
    have key : ∀ i, i < m → ∃ s : Ds, w.cell? (a.add i) = some (.slice s.a s.n s.c) ∧ DsM w.heap.size w s := fun i him => by
      obtain ⟨cs', hcc, hd⟩ := hi i him
      obtain ⟨_, hlen, hat⟩ := World.cells?_some hcc
      have k0 := hat 0 (by omega)
      obtain ⟨u, rfl⟩ : ∃ u, cs' = [u] := by
        match cs', hlen with
        | [u], _ => exact ⟨u, rfl⟩
      obtain ⟨s, rfl, S⟩ := pts_of ht he hk0 hk1 ho hd
      refine ⟨s, ?_, S⟩
      have r : (a.add (i * 1)).add 0 = a.add i := by rw [add_add]; simp
      rw [r] at k0
      simpa using k0
    obtain ⟨r, hr2⟩ := choose_lt key
    refine ⟨some a, len, m, r, hcs', hm, hl, fun i hi' => (hr2 i (by omega)).2, fun hl0 => ?_⟩
    have c0 := (hr2 0 (by omega)).1
    obtain ⟨b, off, spot⟩ := a
    have hspot : spot = none := by simpa [Addr.add] using World.cell?_spot c0
    subst hspot
    refine ⟨b, off, rfl, ?_, fun i hi' => ?_⟩
    · have := block_lt_of_cell c0
      simpa [Addr.add] using this
    · have ci := (hr2 i (by omega)).1
      have e2 : (⟨b, off, none⟩ : Addr).add i = ⟨b, off + i, none⟩ := by simp [Addr.add]
      rw [← e2]; exact ci
theorem gates_of {H : Type} {enc : TypeId × Value → H} {P : Program} {w : World} {v : Value} {y : DataW H × List MemPlace} {fuel : Nat} {t e : TypeId} {f0 f1 f2 p0 p1 q0 q1 : Field}
    (ht : P.underlying t = some (.slice e)) (he : P.underlying e = some (.struct #[f0, f1, f2])) (h0 : P.underlying f0.type = some (.struct #[p0, p1])) (h1 : P.underlying f1.type = some (.struct #[q0, q1])) (hk2 : P.underlying f2.type = some .bool)
    (hp0 : P.underlying p0.type = some (.int .i64)) (hp1 : P.underlying p1.type = some (.int .i64)) (hq0 : P.underlying q0.type = some (.int .i64)) (hq1 : P.underlying q1.type = some (.int .i64))
    (hp : (p0.offset, p1.offset, P.cellsOf p0.type, P.cellsOf p1.type) = (0, 1, 1, 1)) (hq : (q0.offset, q1.offset, P.cellsOf q0.type, P.cellsOf q1.type) = (0, 1, 1, 1))
    (ho : (f0.offset, f1.offset, f2.offset) = (0, 2, 4)) (hc : (P.cellsOf f0.type, P.cellsOf f1.type, P.cellsOf f2.type, P.cellsOf e) = (2, 2, 1, 5))
    (hf : DataW.trod enc P w 0 (fun _ => true) true fuel t [v] = some y) :
    ∃ (a : Option Addr) (len cap : Nat) (G : Nat → Gt), v = .slice a len cap ∧ cap ≤ maxLen ∧ len ≤ cap ∧ (∀ i, i < len → (In64 (G i).ax ∧ In64 (G i).ay) ∧ In64 (G i).bx ∧ In64 (G i).by') ∧
      (0 < len → ∃ b off, a = some ⟨b, off, none⟩ ∧ b < w.heap.size ∧ ∀ i, i < len → (w.cell? ⟨b, off + i * 5, none⟩ = some (.int .i64 (G i).ax) ∧ w.cell? ⟨b, off + i * 5 + 1, none⟩ = some (.int .i64 (G i).ay)) ∧ (w.cell? ⟨b, off + i * 5 + 2, none⟩ = some (.int .i64 (G i).bx) ∧ w.cell? ⟨b, off + i * 5 + 3, none⟩ = some (.int .i64 (G i).by')) ∧ w.cell? ⟨b, off + i * 5 + 4, none⟩ = some (.bool (G i).s)) := by
  simp only [Prod.mk.injEq] at ho hc
  obtain ⟨o0, o1, o2⟩ := ho
  obtain ⟨c0, c1, c2, h2⟩ := hc
  rcases open_slice ht hf with ⟨hcs, _⟩ | ⟨a', len', cap', m, n, D, Pl, hcs, _, hl, hm, hmm, _, hi⟩
  · simp at hcs
    exact ⟨none, 0, 0, fun _ => default, hcs, by unfold maxLen; omega, by omega, fun i h => absurd h (by omega), fun h => absurd h (by omega)⟩
  · simp at hcs
    simp only [if_true] at hmm
    subst hmm
    have key : ∀ i, i < m → ∃ g : Gt, ((In64 g.ax ∧ In64 g.ay) ∧ In64 g.bx ∧ In64 g.by') ∧ (w.cell? (a'.add (i * 5)) = some (.int .i64 g.ax) ∧ w.cell? (a'.add (i * 5 + 1)) = some (.int .i64 g.ay)) ∧ (w.cell? (a'.add (i * 5 + 2)) = some (.int .i64 g.bx) ∧ w.cell? (a'.add (i * 5 + 3)) = some (.int .i64 g.by')) ∧ w.cell? (a'.add (i * 5 + 4)) = some (.bool g.s) := by
      intro i hin
      obtain ⟨cs, hc, hd⟩ := hi i hin
      rw [h2] at hc
      obtain ⟨xs, q, _, _, hlen, hxl, hh⟩ := DataW.trod_struct he hd
      have hxl : xs.length = 3 := hxl
      obtain ⟨z0, g0⟩ := trod_fld hh 0 (f := f0) rfl (by omega) (o := 0) (k := 2) (ty := f0.type) (by rw [o0, c0])
      obtain ⟨z1, g1⟩ := trod_fld hh 1 (f := f1) rfl (by omega) (o := 2) (k := 2) (ty := f1.type) (by rw [o1, c1])
      obtain ⟨z2, g2⟩ := trod_fld hh 2 (f := f2) rfl (by omega) (o := 4) (k := 1) (ty := f2.type) (by rw [o2, c2])
      have hcell := (World.cells?_some hc).2.2
      have hl5 : cs.length = 5 := by omega
      match cs, hl5 with
      | [v0, v1, v2, v3, v4], _ =>
        obtain ⟨x0, x1, e0, e1, w0, w1⟩ := trod_pair h0 hp0 hp1 hp g0
        obtain ⟨x2, x3, e2, e3, w2, w3⟩ := trod_pair h1 hq0 hq1 hq g1
        obtain ⟨x4, e4, _⟩ := DataW.trod_bool hk2 g2
        simp at e4
        subst e0 e1 e2 e3 e4
        refine ⟨⟨x0, x1, x2, x3, x4⟩, ⟨⟨wf_64 w0, wf_64 w1⟩, wf_64 w2, wf_64 w3⟩, ⟨?_, ?_⟩, ⟨?_, ?_⟩, ?_⟩
        · have k0 := hcell 0 (by simp); rw [add_add] at k0; simpa using k0
        · have k0 := hcell 1 (by simp); rw [add_add] at k0; simpa using k0
        · have k0 := hcell 2 (by simp); rw [add_add] at k0; simpa using k0
        · have k0 := hcell 3 (by simp); rw [add_add] at k0; simpa using k0
        · have k0 := hcell 4 (by simp); rw [add_add] at k0; simpa using k0
    obtain ⟨f, hf2⟩ := choose_lt key
    refine ⟨some a', len', m, f, hcs, hm, hl, fun i h => (hf2 i (by omega)).1, fun h0 => ?_⟩
    have k0 := (hf2 0 (by omega)).2.1.1
    obtain ⟨b, off, spot⟩ := a'
    have hspot : spot = none := by simpa [Addr.add] using World.cell?_spot k0
    subst hspot
    refine ⟨b, off, rfl, ?_, fun i hin => ?_⟩
    · have := block_lt_of_cell k0
      simpa [Addr.add] using this
    · have k := (hf2 i (by omega)).2
      rw [Addr.add_lit, Addr.add_lit, Addr.add_lit, Addr.add_lit, Addr.add_lit] at k
      exact k
theorem bounds_u32' {n : Int} (h : (Lit.int .u32 n).wf = true) : 0 ≤ n ∧ n ≤ 4294967295 := by
  simp [Lit.wf, IntKind.min, IntKind.max, IntKind.signed, IntKind.bits] at h
  omega
set_option maxRecDepth 100000 in
set_option maxHeartbeats 1000000 in
/-- the opening serves a track with all that hangs on it -/
theorem tk_all {H : Type} {enc : TypeId × Value → H} {w : World} {v : Value} {d : DataW H} {ps : List MemPlace} {rr : Reach} {b0 : Nat} (hv : Value.okWide Try.prog w rr b0 34 v) (h : DataW.Trod enc Try.prog w 0 (fun _ => true) true 34 v d ps) :
    ∃ k : Tk, v = trkV k.t ∧ TkM w.heap.size w k ∧ 0 ≤ k.t.head ∧ k.t.head ≤ 4294967295 := by
  obtain ⟨cs, rfl, hsz⟩ := okWide_struct Try.underlying34 hv
  have hsz : cs.size = 16 := hsz.trans (by kernel_rfl)
  obtain ⟨l⟩ := cs
  match l, hsz with
  | [c0, c1, c2, c3, c4, c5, c6, c7, c8, c9, c10, c11, c12, c13, c14, c15], _ =>
    obtain ⟨fuel, hf⟩ := h
    obtain ⟨xs, n, _, _, _, hxl, hh⟩ := DataW.trod_struct Try.underlying34 hf
    have hxl : xs.length = 14 := hxl
    obtain ⟨z0, g0⟩ := trod_fld hh 0 rfl (by omega) (o := 0) (k := 1) (ty := 3) (by kernel_rfl)
    obtain ⟨z1, g1⟩ := trod_fld hh 1 rfl (by omega) (o := 1) (k := 1) (ty := 22) (by kernel_rfl)
    obtain ⟨z2, g2⟩ := trod_fld hh 2 rfl (by omega) (o := 2) (k := 1) (ty := 3) (by kernel_rfl)
    obtain ⟨z3, g3⟩ := trod_fld hh 3 rfl (by omega) (o := 3) (k := 1) (ty := 3) (by kernel_rfl)
    obtain ⟨z4, g4⟩ := trod_fld hh 4 rfl (by omega) (o := 4) (k := 2) (ty := 24) (by kernel_rfl)
    obtain ⟨z5, g5⟩ := trod_fld hh 5 rfl (by omega) (o := 6) (k := 1) (ty := 25) (by kernel_rfl)
    obtain ⟨z6, g6⟩ := trod_fld hh 6 rfl (by omega) (o := 7) (k := 1) (ty := 26) (by kernel_rfl)
    obtain ⟨z7, g7⟩ := trod_fld hh 7 rfl (by omega) (o := 8) (k := 1) (ty := 27) (by kernel_rfl)
    obtain ⟨z8, g8⟩ := trod_fld hh 8 rfl (by omega) (o := 9) (k := 1) (ty := 28) (by kernel_rfl)
    obtain ⟨z9, g9⟩ := trod_fld hh 9 rfl (by omega) (o := 10) (k := 1) (ty := 29) (by kernel_rfl)
    obtain ⟨z10, g10⟩ := trod_fld hh 10 rfl (by omega) (o := 11) (k := 1) (ty := 30) (by kernel_rfl)
    obtain ⟨z11, g11⟩ := trod_fld hh 11 rfl (by omega) (o := 12) (k := 2) (ty := 24) (by kernel_rfl)
    obtain ⟨z12, g12⟩ := trod_fld hh 12 rfl (by omega) (o := 14) (k := 1) (ty := 32) (by kernel_rfl)
    obtain ⟨z13, g13⟩ := trod_fld hh 13 rfl (by omega) (o := 15) (k := 1) (ty := 3) (by kernel_rfl)
    obtain ⟨x0, e0, _, w0⟩ := DataW.trod_int Try.underlying3 g0
    obtain ⟨x1, e1, _, w1⟩ := DataW.trod_int Try.underlying22 g1
    obtain ⟨x2, e2, _, w2⟩ := DataW.trod_int Try.underlying3 g2
    obtain ⟨x3, e3, _, w3⟩ := DataW.trod_int Try.underlying3 g3
    obtain ⟨x4, x5, e4, e5, w4, w5⟩ := trod_pair Try.underlying24 Try.underlying22 Try.underlying22 (by kernel_rfl) g4
    obtain ⟨s6, e6, N6⟩ := nums_of Try.underlying25 Try.underlying22 (by kernel_rfl) g5
    obtain ⟨s7, e7, N7⟩ := nums_of Try.underlying26 Try.underlying3 (by kernel_rfl) g6
    obtain ⟨ka, kn, kc, kg, kd, ko, e8, km, kl, kw, kcell⟩ := kinds_of Try.underlying27 Try.underlying176 Try.underlying22 Try.underlying22 Try.underlying4 (by kernel_rfl) (by kernel_rfl) g7
    obtain ⟨s9, e9, N9⟩ := pts_of Try.underlying28 Try.underlying24 Try.underlying22 Try.underlying22 (by kernel_rfl) g8
    obtain ⟨ra, rn, rc, R, e10, rm, rl, rs, rcell⟩ := rails_of Try.underlying29 Try.underlying28 Try.underlying24 Try.underlying22 Try.underlying22 (by kernel_rfl) (by kernel_rfl) g9
    obtain ⟨ga, gn, gc, G, e11, gm, gl, gw, gcell⟩ := gates_of Try.underlying30 Try.underlying178 Try.underlying24 Try.underlying24 Try.underlying4 Try.underlying22 Try.underlying22 Try.underlying22 Try.underlying22 (by kernel_rfl) (by kernel_rfl) (by kernel_rfl) (by kernel_rfl) g10
    obtain ⟨x12, x13, e12, e13, w12, w13⟩ := trod_pair Try.underlying24 Try.underlying22 Try.underlying22 (by kernel_rfl) g11
    obtain ⟨x14, e14, _, w14⟩ := DataW.trod_int Try.underlying32 g12
    obtain ⟨x15, e15, _, w15⟩ := DataW.trod_int Try.underlying3 g13
    replace e0 := (List.cons.inj (show [c0] = [_] from e0)).1
    replace e1 := (List.cons.inj (show [c1] = [_] from e1)).1
    replace e2 := (List.cons.inj (show [c2] = [_] from e2)).1
    replace e3 := (List.cons.inj (show [c3] = [_] from e3)).1
    replace e14 := (List.cons.inj (show [c14] = [_] from e14)).1
    replace e15 := (List.cons.inj (show [c15] = [_] from e15)).1
    subst e0 e1 e2 e3 e4 e5 e6 e7 e8 e9 e10 e11 e12 e13 e14 e15
    refine ⟨⟨⟨x0, x1, x2, x3, x4, x5, s6, s7, ka, kn, kc, kg, kd, ko, s9.a, s9.n, s9.c, ra, rn, rc, ga, gn, gc, x12, x13, x14, x15⟩, fun i => (s9.x i, s9.y i), R, G⟩, rfl, ⟨⟨N6, N7, km, kl, fun i hi => ⟨wf_64 (kw i hi).1, wf_64 (kw i hi).2⟩, kcell, wf_64 w1, wf_64 w2, wf_64 w3, wf_64 w4, wf_64 w5⟩, N9, rm, rl, rcell, rs, gm, gl, gw, gcell, ⟨wf_64 w0, wf_64 w15⟩, wf_64 w12, wf_64 w13⟩, bounds_u32' w14⟩
set_option maxRecDepth 100000 in
theorem tk_api {H : Type} {enc : TypeId × Value → H} {w : World} {v : Value} {d : DataW H} {ps : List MemPlace} {rr : Reach} {b0 : Nat} (hv : Value.okWide Try.prog w rr b0 34 v) (h : DataW.Trod enc Try.prog w 0 (fun _ => true) true 34 v d ps) :
    ∃ k : Tk, v = trkV k.t ∧ TkM w.heap.size w k := by
  obtain ⟨k, e, K, -⟩ := tk_all hv h
  exact ⟨k, e, K⟩
end Go.Proofs.Ytllkhgcokbpggaa
