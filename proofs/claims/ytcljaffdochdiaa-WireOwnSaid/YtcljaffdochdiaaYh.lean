/- A list of words that came in; few, kind. -/
import Derived.Test.YtcljaffdochdiaaYg
import Derived.Deep.Slices
import Derived.ChangeSame
import Derived.ChangeArms
namespace Go.Proofs.Ytcljaffdochdiaa
open Go.RowKit Go.ChangeShapes Go.WideShapes Go.Deep
set_option linter.unusedVariables false
set_option linter.unusedSimpArgs false

/-- a word -/
structure OpI where
  k : Int
  n : Int
  b : Bool
  s : ByteArray
  m : Int
instance : Inhabited OpI := ⟨⟨0, 0, false, ByteArray.empty, 0⟩⟩
def OpI.vals (o : OpI) : List Value := [.int .i64 o.k, .int .i64 o.n, .bool o.b, .string o.s, .int .i64 o.m]
structure OpI.ok (o : OpI) : Prop where
  k : (Lit.int .i64 o.k).wf = true
  n : (Lit.int .i64 o.n).wf = true
  m : (Lit.int .i64 o.m).wf = true
  s : o.s.size ≤ maxLen
/-- the slice reads as the words f 0, f 1, .. -/
structure OpsM (w : World) (a : Option Addr) (len cap : Nat) (f : Nat → OpI) : Prop where
  hm : cap ≤ maxLen
  hl : len ≤ cap
  wf : ∀ i, i < len → (f i).ok
  at' : 0 < len → ∃ b off, a = some ⟨b, off, none⟩ ∧ b < w.heap.size ∧ ∀ i, i < len → ∀ j u, (f i).vals[j]? = some u → w.cell? ⟨b, off + i * 5 + j, none⟩ = some u
theorem OpsM.below {w w' : World} {a : Option Addr} {len cap : Nat} {f : Nat → OpI} {B : Nat} (D : OpsM w a len cap f) (h : Below B w w') (hB : w.heap.size ≤ B) : OpsM w' a len cap f :=
  ⟨D.hm, D.hl, D.wf, fun h0 => by
    obtain ⟨b, off, rfl, hb, hc⟩ := D.at' h0
    exact ⟨b, off, rfl, by have := h.size; omega, fun i hi j u hu => (h.cell (p := ⟨b, _, none⟩) (by show b < B; omega)).trans (hc i hi j u hu)⟩⟩
theorem OpsM.grown {w w' : World} {a : Option Addr} {len cap : Nat} {f : Nat → OpI} {g : Nat} (D : OpsM w a len cap f) (h : w.grownBy w' (some g)) (hg : 0 < len → ∀ p, a = some p → p.block ≠ g) : OpsM w' a len cap f :=
  ⟨D.hm, D.hl, D.wf, fun h0 => by
    obtain ⟨b, off, rfl, hb, hc⟩ := D.at' h0
    have ne : some b ≠ some g := fun e => hg h0 _ rfl (Option.some.inj e)
    exact ⟨b, off, rfl, Nat.lt_of_lt_of_le hb h.size, fun i hi j u hu => (h.cell_far ⟨b, _, none⟩ hb ne).trans (hc i hi j u hu)⟩⟩
theorem trod_struct5 {H : Type} {enc : TypeId × Value → H} {P : Program} {w : World} {base : Nat} {spare : Nat → Bool} {held : Bool} {t : TypeId} {f0 f1 f2 f3 f4 : Field} {fuel : Nat} {cs : List Value} {x : DataW H × List MemPlace} (ht : P.underlying t = some (.struct #[f0, f1, f2, f3, f4])) (h : DataW.trod enc P w base spare held fuel t cs = some x) :
    ∃ y0 y1 y2 y3 y4 n, cs.length = P.cellsOf t ∧ DataW.trod enc P w base spare held n f0.type ((cs.drop f0.offset).take (P.cellsOf f0.type)) = some y0 ∧ DataW.trod enc P w base spare held n f1.type ((cs.drop f1.offset).take (P.cellsOf f1.type)) = some y1 ∧
      DataW.trod enc P w base spare held n f2.type ((cs.drop f2.offset).take (P.cellsOf f2.type)) = some y2 ∧ DataW.trod enc P w base spare held n f3.type ((cs.drop f3.offset).take (P.cellsOf f3.type)) = some y3 ∧ DataW.trod enc P w base spare held n f4.type ((cs.drop f4.offset).take (P.cellsOf f4.type)) = some y4 := by
  obtain ⟨xs, n, _, rfl, hl, hlen, hf⟩ := DataW.trod_struct ht h
  match xs, hlen with
  | [y0, y1, y2, y3, y4], _ => exact ⟨y0, y1, y2, y3, y4, n, hl, by simpa using hf 0 f0 rfl, by simpa using hf 1 f1 rfl, by simpa using hf 2 f2 rfl, by simpa using hf 3 f3 rfl, by simpa using hf 4 f4 rfl⟩
theorem ops_of {H : Type} {enc : TypeId × Value → H} {P : Program} {w : World} {a : Option Addr} {len cap : Nat} {d : DataW H} {ps : List MemPlace} {t e : TypeId} {f0 f1 f2 f3 f4 : Field}
    (ht : P.underlying t = some (.slice e)) (he : P.underlying e = some (.struct #[f0, f1, f2, f3, f4])) (hk0 : P.underlying f0.type = some (.int .i64)) (hk1 : P.underlying f1.type = some (.int .i64)) (hk2 : P.underlying f2.type = some .bool) (hk3 : P.underlying f3.type = some .string) (hk4 : P.underlying f4.type = some (.int .i64))
    (ho : (f0.offset, f1.offset, f2.offset, f3.offset, f4.offset) = (0, 1, 2, 3, 4)) (hc : (P.cellsOf f0.type, P.cellsOf f1.type, P.cellsOf f2.type, P.cellsOf f3.type, P.cellsOf f4.type, P.cellsOf e) = (1, 1, 1, 1, 1, 5))
    (h : DataW.Trod enc P w 0 (fun _ => true) true t (.slice a len cap) d ps) : ∃ f, OpsM w a len cap f := by
  simp only [Prod.mk.injEq] at ho hc
  obtain ⟨o0, o1, o2, o3, o4⟩ := ho
  obtain ⟨c0, c1, c2, c3, c4, h2⟩ := hc
  obtain ⟨fuel, hf⟩ := h
  rcases open_slice ht hf with ⟨hcs, _⟩ | ⟨a', len', cap', m, n, D, Pl, hcs, _, hl, hm, hmm, _, hi⟩
  · simp [Value.cells] at hcs
    obtain ⟨rfl, rfl, rfl⟩ := hcs
    exact ⟨fun _ => ⟨0, 0, false, ByteArray.empty, 0⟩, by unfold maxLen; omega, by omega, fun i h => absurd h (by omega), fun h => absurd h (by omega)⟩
  · simp [Value.cells] at hcs
    obtain ⟨rfl, rfl, rfl⟩ := hcs
    simp only [if_true] at hmm
    subst hmm
    have key : ∀ i, i < m → ∃ q : OpI, q.ok ∧ ∀ j u, q.vals[j]? = some u → w.cell? (a'.add (i * 5 + j)) = some u := by
      intro i hin
      obtain ⟨cs, hc, hd⟩ := hi i hin
      rw [h2] at hc
      obtain ⟨y0, y1, y2, y3, y4, q, hlen, g0, g1, g2, g3, g4⟩ := trod_struct5 he hd
      rw [o0, c0] at g0
      rw [o1, c1] at g1
      rw [o2, c2] at g2
      rw [o3, c3] at g3
      rw [o4, c4] at g4
      obtain ⟨x0, e0, _, w0⟩ := DataW.trod_int hk0 g0
      obtain ⟨x1, e1, _, w1⟩ := DataW.trod_int hk1 g1
      obtain ⟨x2, e2, _⟩ := DataW.trod_bool hk2 g2
      obtain ⟨x3, e3, _, w3⟩ := DataW.trod_string hk3 g3
      obtain ⟨x4, e4, _, w4⟩ := DataW.trod_int hk4 g4
      have hcell := (World.cells?_some hc).2.2
      have hl5 : cs.length = 5 := by omega
      refine ⟨⟨x0, x1, x2, x3, x4⟩, ⟨w0, w1, w4, w3⟩, fun j u hu => ?_⟩
      match cs, hl5 with
      | [v0, v1, v2, v3, v4], _ =>
        simp at e0 e1 e2 e3 e4
        subst e0 e1 e2 e3 e4
        have hj : j < 5 := by
          rcases Nat.lt_or_ge j 5 with k | k
          · exact k
          · rw [List.getElem?_eq_none (by simpa [OpI.vals] using k)] at hu; cases hu
        have k0 := hcell j (by simpa using hj)
        rw [add_add] at k0
        rw [k0, ← hu]
        rfl
    obtain ⟨f, hf2⟩ := choose_lt key
    refine ⟨f, hm, hl, fun i h => (hf2 i (by omega)).1, fun h0 => ?_⟩
    have k0 := (hf2 0 (by omega)).2 0 _ rfl
    obtain ⟨b, off, spot⟩ := a'
    have hspot : spot = none := by simpa [Addr.add] using World.cell?_spot k0
    subst hspot
    refine ⟨b, off, rfl, ?_, fun i hin j u hu => ?_⟩
    · have := block_lt_of_cell k0
      simpa [Addr.add] using this
    · have k := (hf2 i (by omega)).2 j u hu
      rw [Addr.add_lit, ← Nat.add_assoc] at k
      exact k
def fewW (len : Nat) (f : Nat → OpI) : Prop := len ≤ 100 ∧ ∀ i, i < len → (f i).s.size ≤ 50
instance (len : Nat) (f : Nat → OpI) : Decidable (fewW len f) := by unfold fewW; exact inferInstance
set_option maxHeartbeats 1000000 in
theorem wfew_any (a : Option Addr) (len cap : Nat) (f : Nat → OpI) (w : World) (D : OpsM w a len cap f) :
    Calls Try.prog 6 #[.slice a len cap] w fun e w' => e = .returned (.bool (decide (fewW len f))) ∧ w' = w := by
  have HD := Lib.hid D
  have hcap := D.hm
  have hlc := D.hl
  unfold maxLen at hcap
  clear D
  go_enter Try.func6, Try.ntmps6
  go_wp2
  go_loopw [3] (fun i wr => ∃ j : Nat, j ≤ len ∧ j ≤ 100 ∧ i = .int .i64 j ∧ Hid (∀ i, i < j → (f i).s.size ≤ 50) ∧ wr = w) (fun i _ => len - (intOf i).toNat)
  case atStart => exact ⟨0, by omega, by omega, rfl, fun i h => absurd h (by omega), rfl⟩
  case round =>
    obtain ⟨j, hj, hj1, rfl, H, rfl⟩ := hrel
    by_cases c1 : j < len
    · by_cases c2 : j < 100
      · obtain ⟨b, off, rfl, hb, hcell⟩ := HD.out.at' (by omega)
        have c := hcell j c1 3 _ rfl
        have HN := Lib.hid (fun (k : (f j).s.size ≤ 50) (i : Nat) (hi : i < j + 1) => (by
          by_cases e : i = j
          · subst e; exact k
          · exact H.out i (by omega) : (f i).s.size ≤ 50))
        clear hcell H
        by_cases q : (f j).s.size ≤ 50
        · have HM := Lib.hid (HN.out q)
          have q' : ¬ (50 : Int) < ((f j).s.size : Int) := by omega
          clear HN q
          go_wp2
          go_roundw
          case rel => exact ⟨j + 1, by omega, by omega, by go_num, HM.out, trivial⟩
          case measure => (simp [intOf]; try omega)
        · clear HN
          have q' : (50 : Int) < ((f j).s.size : Int) := by omega
          have E := Lib.hid (show decide (fewW len f) = false from decide_eq_false (fun h => q (h.2 j c1)))
          clear q
          go_wp2
          go_ret
          exact ⟨by rw [E.out]; rfl, rfl⟩
      · have q' : ¬ (len : Int) ≤ 100 := by omega
        have E := Lib.hid (show decide (fewW len f) = false from decide_eq_false (fun h => by have := h.1; omega))
        go_wp2
        go_ret
        exact ⟨by rw [E.out]; rfl, rfl⟩
    · have e : j = len := by omega
      have E := Lib.hid (show decide (fewW len f) = true from decide_eq_true ⟨by omega, fun i hi => H.out i (by omega)⟩)
      have q' : (len : Int) ≤ 100 := by omega
      clear e
      go_wp2
      go_ret
      exact ⟨by rw [E.out]; rfl, rfl⟩
def kindI (k : Int) : Int := (k.tmod 6 + 6).tmod 6
theorem tmod6 (k : Int) : -5 ≤ k.tmod 6 ∧ k.tmod 6 ≤ 5 := by
  rw [Int.tmod_eq_emod]
  split <;> omega
theorem kind_in (k : Int) : 0 ≤ kindI k ∧ kindI k ≤ 5 := by
  have := tmod6 k
  unfold kindI
  rw [Int.tmod_eq_emod_of_nonneg (by omega)]; omega
theorem wkind_any (o : OpI) (w : World) (h : o.ok) :
    Calls Try.prog 7 #[.agg #[.int .i64 o.k, .int .i64 o.n, .bool o.b, .string o.s, .int .i64 o.m]] w fun e w' => e = .returned (.int .i64 (kindI o.k)) ∧ Below w.heap.size w w' := by
  obtain ⟨k0, k1⟩ := bounds_i64 h.k
  obtain ⟨k, hk⟩ : ∃ k, o.k = k := ⟨_, rfl⟩
  rw [hk] at k0 k1 ⊢
  clear hk
  have t0 := (tmod6 k).1
  have t1 := (tmod6 k).2
  obtain ⟨t, ht⟩ : ∃ t, k.tmod 6 = t := ⟨_, rfl⟩
  have E := Lib.hid (show kindI k = (t + 6) % 6 by unfold kindI; rw [ht, Int.tmod_eq_emod_of_nonneg (by omega)])
  rw [E.out]
  rw [ht] at t0 t1
  go_enter Try.func7, Try.ntmps7
  go_wp2
  go_ret
  exact ⟨rfl, by repeat (first | exact Below.refl _ _ | assumption | refine Below.setCell ?_ (by first | omega | (simp; done) | (simp; omega)) _ | refine Below.alloc ?_ (by first | omega | (simp; done) | (simp; omega)) _ | refine below_drewN ?_ _ | refine Below.drew ?_ | refine Below.trans ?_ (Below.mono (by assumption) (by first | omega | (simp; done) | (simp; omega))))⟩
end Go.Proofs.Ytcljaffdochdiaa
