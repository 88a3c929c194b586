/- Vectors in memory; contracts of the document's vec. -/
import Derived.Test.YtbpmbdnhfkfkhaaBy
import Derived.Test.YtbpmbdnhfkfkhaaBk
import Derived.Test.YtbpmbdnhfkfkhaaBm
namespace Go.Proofs.Ytbpmbdnhfkfkhaa
open Go.RowKit
set_option linter.unusedVariables false
set_option linter.unusedSimpArgs false

/-- a vector lies in the three cells of block n, which may be written -/
structure VW (W : World) (n : Nat) (x y z : Int) : Prop where
  c0 : W.cell? ⟨n, 0, none⟩ = some (.int .i64 x)
  c1 : W.cell? ⟨n, 1, none⟩ = some (.int .i64 y)
  c2 : W.cell? ⟨n, 2, none⟩ = some (.int .i64 z)
  f : ∀ j, W.frozen? ⟨n, j, none⟩ = false
  lt : n < W.heap.size
theorem VW.new (w : World) (n : Nat) (x y z : Int) (t : TypeId) (e : n = w.heap.size) : VW (w.alloc (.cells #[.int .i64 x, .int .i64 y, .int .i64 z] t)) n x y z := by
  subst e
  exact ⟨World.cell?_alloc_new w _ t 0, World.cell?_alloc_new w _ t 1, World.cell?_alloc_new w _ t 2, fun j => by go_simp, by simp⟩
theorem VW.below {B : Nat} {w w' : World} {n : Nat} {x y z : Int} (k : VW w n x y z) (h : Below B w w') (hn : n < B) : VW w' n x y z :=
  ⟨(h.cell (p := ⟨n, 0, none⟩) hn).trans k.c0, (h.cell (p := ⟨n, 1, none⟩) hn).trans k.c1, (h.cell (p := ⟨n, 2, none⟩) hn).trans k.c2, fun j => (h.frozen (p := ⟨n, j, none⟩) hn).trans (k.f j), by have := h.size; have := k.lt; omega⟩
theorem VW.alloc {w : World} {n : Nat} {x y z : Int} (k : VW w n x y z) (o : Obj) : VW (w.alloc o) n x y z := k.below ((Below.refl w.heap.size w).alloc (Nat.le_refl _) o) k.lt
theorem VW.drew {w : World} {n : Nat} {x y z : Int} (k : VW w n x y z) : VW w.drew n x y z := ⟨k.c0, k.c1, k.c2, k.f, k.lt⟩
theorem VW.fx {W W' : World} {n b j : Nat} {q : Bool} {x y z : Int} (k : VW W n x y z) (h : FxW W.heap.size W b j q W') (e : b ≠ n) : VW W' n x y z :=
  ⟨(h.cell k.lt e).trans k.c0, (h.cell k.lt e).trans k.c1, (h.cell k.lt e).trans k.c2, fun i => (h.frozen k.lt).trans (k.f i), by have := h.size; have := k.lt; omega⟩
theorem VW.held {W : World} {n : Nat} {x y z : Int} (k : VW W n x y z) : (W.cell? ⟨n, 0, none⟩ = some (.int .i64 (x)) ∧ W.cell? ⟨n, 1, none⟩ = some (.int .i64 (y)) ∧ W.cell? ⟨n, 2, none⟩ = some (.int .i64 (z))) := ⟨k.c0, k.c1, k.c2⟩
/-- a vector whose parts fit -/
structure In3 (x y z : Int) : Prop where
  x0 : -9223372036854775808 ≤ x
  x1 : x ≤ 9223372036854775807
  y0 : -9223372036854775808 ≤ y
  y1 : y ≤ 9223372036854775807
  z0 : -9223372036854775808 ≤ z
  z1 : z ≤ 9223372036854775807

/-- the state of a walk that reckons by a receiver: what lies below the old size is as it was but for the flag -/
structure Flag (w W : World) (b k : Nat) (o : Bool) : Prop where
  m : MAt W b k o
  f : FxW w.heap.size w b k o W
  lt : b < w.heap.size
theorem Flag.start {w W : World} {b k : Nat} {o : Bool} (m : MAt w b k o) (h : Below w.heap.size w W) : Flag w W b k o :=
  ⟨m.below h m.lt, (FxW.refl m).then h (Nat.le_refl _), m.lt⟩
theorem Flag.fx {w W W' : World} {b k : Nat} {o q : Bool} (t : Flag w W b k o) (h : FxW W.heap.size W b k q W') : Flag w W' b k q :=
  ⟨h.at t.m t.m.lt, t.f.trans (h.mono t.f.size), t.lt⟩
theorem Flag.more {w W W' : World} {b k : Nat} {o : Bool} (t : Flag w W b k o) (h : Below W.heap.size W W') : Flag w W' b k o :=
  ⟨t.m.below h t.m.lt, t.f.then h t.f.size, t.lt⟩

theorem VW.far {W : World} {n r : Nat} {x y z : Int} (k : VW W n x y z) (e : r ≠ n) (i : Nat) (v : Value) : VW (W.setCell ⟨r, i, none⟩ v) n x y z := by
  have a : ∀ j, (⟨r, i, none⟩ : Addr) ≠ ⟨n, j, none⟩ := fun j h => e (congrArg Addr.block h)
  exact ⟨(World.cell?_setCell_other _ _ _ _ (a 0)).trans k.c0, (World.cell?_setCell_other _ _ _ _ (a 1)).trans k.c1, (World.cell?_setCell_other _ _ _ _ (a 2)).trans k.c2, fun j => (World.frozen?_setCell _ _ _ _).trans (k.f j), by rw [set_size]; exact k.lt⟩
theorem Flag.put3 {w W : World} {b k : Nat} {o : Bool} (t : Flag w W b k o) {r : Nat} (h : w.heap.size ≤ r) (u v z : Value) :
    FxW w.heap.size w b k o (((W.setCell ⟨r, 0, none⟩ u).setCell ⟨r, 1, none⟩ v).setCell ⟨r, 2, none⟩ z) :=
  t.f.then ((((Below.refl w.heap.size W).setCell (p := ⟨r, 0, none⟩) h u).setCell (p := ⟨r, 1, none⟩) h v).setCell (p := ⟨r, 2, none⟩) h z) (Nat.le_refl _)

end Go.Proofs.Ytbpmbdnhfkfkhaa
namespace Go.Proofs.Ytbpmbdnhfkfkhaa
open Go.RowKit

/-- a receiver of a statement's own -/
structure Own (w W : World) (n : Nat) (o : Bool) : Prop where
  a : MAt W n 0 o
  na : w.heap.size ≤ n
  bl : Below w.heap.size w W
theorem Own.fst {w W W' : World} {n : Nat} {o q : Bool} (t : Own w W n o) (h : FxW W.heap.size W n 0 q W') : Own w W' n q :=
  ⟨h.at t.a t.a.lt, t.na, t.bl.trans (h.below t.bl.size t.na)⟩
theorem Own.more {w W W' : World} {n : Nat} {o : Bool} (t : Own w W n o) (h : Below W.heap.size W W') : Own w W' n o :=
  ⟨t.a.below h t.a.lt, t.na, t.bl.trans (h.mono t.bl.size)⟩
theorem Own.drew {w W : World} {n : Nat} {o : Bool} (t : Own w W n o) : Own w W.drew n o := ⟨t.a.drew, t.na, t.bl.drew⟩
theorem Own.new {w W : World} (h : Below w.heap.size w W) (s : TypeId) : Own w (W.alloc (.cells #[.bool false] s)) W.heap.size false :=
  ⟨MAt.new W false s, h.size, h.alloc h.size _⟩
theorem own_at {w W : World} {n : Nat} (h : Below w.heap.size w W) (e : n = W.heap.size) (s : TypeId) : Own w (W.alloc (.cells #[.bool false] s)) n false := by
  subst e; exact Own.new h s
/-- operation number i, which is not wanted, is passed by; its slot d is named -/
theorem wpAnyH_skipD {P : Program} {md : Region.Mode} {ops : Array Oper} {Q : Exit → Act → World → Prop} {S : World → Prop} (i d : Nat) {fuel : Nat} {listed : Array Bool} {a : Act} {w : World}
    (hi : (ops[i]?.map fun o => o.dst) = some (some d)) (hs : Region.noSelect ops = true) (hf : Region.free md ops listed i = true) (hr : (Region.ready md ops listed).contains i = true)
    (hw : (ops[i]?.map fun o => Region.wanted o (yielded ops a.tmps)) = some false)
    (hQ : ∀ c a w, Q (.panic c) (a.put (some d) undef) w → Q (.panic c) a w) (hS : S w)
    (h : wpAnyH P md ops Q S fuel (listed.setIfInBounds i true) (a.put (some d) undef) w) : wpAnyH P md ops Q S (fuel + 1) listed a w := by
  cases ho : ops[i]? with
  | none => rw [ho] at hi; cases hi
  | some o =>
    rw [ho] at hi hw
    have e : o.dst = some d := Option.some.inj hi
    have hw' : Region.wanted o (yielded ops a.tmps) = false := Option.some.inj hw
    refine wpAnyH_take (i := i) (oi := o) (v := undef) ho hs hf hr ?_ (Or.inr ⟨hw', rfl⟩) hS ?_
    · rw [e]; exact hQ
    · rw [e]; exact h
/-- operations i and j alone are ready -/
theorem wpAnyH_twoD {P : Program} {md : Region.Mode} {ops : Array Oper} {Q : Exit → Act → World → Prop} {S : World → Prop} (i j : Nat) {fuel : Nat} {listed : Array Bool} {a : Act} {w : World}
    (hr : Region.ready md ops listed = [i, j])
    (hi : ∀ o, ops[i]? = some o → ∀ K' : Act → World → Prop, Shut (∀ a w, S w → (S w → wpAnyH P md ops Q S fuel (listed.setIfInBounds i true) a w) → K' a w) → if Region.wanted o (yielded ops a.tmps) = true then Oper.wp P o a w K' Q else K' (a.put o.dst undef) w)
    (hj : ∀ o, ops[j]? = some o → ∀ K' : Act → World → Prop, Shut (∀ a w, S w → (S w → wpAnyH P md ops Q S fuel (listed.setIfInBounds j true) a w) → K' a w) → if Region.wanted o (yielded ops a.tmps) = true then Oper.wp P o a w K' Q else K' (a.put o.dst undef) w)
    (ni : (ops[i]?.isSome) = true) (nj : (ops[j]?.isSome) = true) : wpAnyH P md ops Q S (fuel + 1) listed a w := by
  cases hoi : ops[i]? with
  | none => rw [hoi] at ni; cases ni
  | some oi =>
    cases hoj : ops[j]? with
    | none => rw [hoj] at nj; cases nj
    | some oj => exact wpAnyH_ready hr (by simp) (AllReadyH.cons hoi (hi oi hoi) (AllReadyH.cons hoj (hj oj hoj) AllReadyH.nil))
theorem VW.put {W : World} {r : Nat} {x y z : Int} (k : VW W r x y z) (a b c : Int) : VW (((W.setCell ⟨r, 0, none⟩ (.int .i64 a)).setCell ⟨r, 1, none⟩ (.int .i64 b)).setCell ⟨r, 2, none⟩ (.int .i64 c)) r a b c := by
  have n01 : (⟨r, 0, none⟩ : Addr) ≠ ⟨r, 1, none⟩ := fun h => by cases h
  have n02 : (⟨r, 0, none⟩ : Addr) ≠ ⟨r, 2, none⟩ := fun h => by cases h
  have n12 : (⟨r, 1, none⟩ : Addr) ≠ ⟨r, 2, none⟩ := fun h => by cases h
  have s1 : (W.setCell ⟨r, 0, none⟩ (.int .i64 a)).cell? ⟨r, 1, none⟩ = some (.int .i64 y) := (World.cell?_setCell_other _ _ _ _ n01).trans k.c1
  have s2 : ((W.setCell ⟨r, 0, none⟩ (.int .i64 a)).setCell ⟨r, 1, none⟩ (.int .i64 b)).cell? ⟨r, 2, none⟩ = some (.int .i64 z) := (World.cell?_setCell_other _ _ _ _ n12).trans ((World.cell?_setCell_other _ _ _ _ n02).trans k.c2)
  refine ⟨?_, ?_, ?_, fun j => ?_, ?_⟩
  · exact (World.cell?_setCell_other _ _ _ _ n02.symm).trans ((World.cell?_setCell_other _ _ _ _ n01.symm).trans (World.cell?_setCell_same _ _ _ k.c0))
  · exact (World.cell?_setCell_other _ _ _ _ n12.symm).trans (World.cell?_setCell_same _ _ _ s1)
  · exact World.cell?_setCell_same _ _ _ s2
  · rw [World.frozen?_setCell, World.frozen?_setCell, World.frozen?_setCell]; exact k.f j
  · rw [set_size, set_size, set_size]; exact k.lt
theorem Own.put {w W : World} {n r : Nat} {o : Bool} (t : Own w W n o) (e : r ≠ n) (h : w.heap.size ≤ r) (i : Nat) (v : Value) : Own w (W.setCell ⟨r, i, none⟩ v) n o := by
  have a : (⟨r, i, none⟩ : Addr) ≠ ⟨n, 0, none⟩ := fun h => e (congrArg Addr.block h)
  exact ⟨⟨(World.cell?_setCell_other _ _ _ _ a).trans t.a.c, (World.frozen?_setCell _ _ _ _).trans t.a.f, by rw [set_size]; exact t.a.lt⟩, t.na, t.bl.setCell (p := ⟨r, i, none⟩) h v⟩
end Go.Proofs.Ytbpmbdnhfkfkhaa
namespace Go.Proofs.Ytbpmbdnhfkfkhaa
open Go.RowKit
set_option linter.unusedVariables false
set_option linter.unusedSimpArgs false

/-- a call's world by a name, with what is known of it -/
theorem calls_gen {P : Program} {f : Nat} {args : Array Value} {W : World} {K : Ending → World → Prop} (S : World → Prop) (h : S W) (k : ∀ W', S W' → Calls P f args W' K) : Calls P f args W K := k W h
/-- a walk's world by a name, with what is known of it -/
theorem wp_gen {P : Program} {c : Code} {Q : Exit → Act → World → Prop} {a : Act} {W : World} (S : World → Prop) (h : S W) (k : ∀ W', S W' → Code.wp P c Q a W') : Code.wp P c Q a W := k W h
/-- a block holds a list of values, and may be written -/
structure BW (W : World) (n : Nat) (l : List Value) : Prop where
  c : ∀ i v, l[i]? = some v → W.cell? ⟨n, i, none⟩ = some v
  f : ∀ j, W.frozen? ⟨n, j, none⟩ = false
  lt : n < W.heap.size
theorem BW.new (w : World) (n : Nat) (l : List Value) (t : TypeId) (e : n = w.heap.size) : BW (w.alloc (.cells l.toArray t)) n l := by
  subst e
  exact ⟨fun i v h => by rw [World.cell?_alloc_new]; simpa using h, fun j => by go_simp, by simp⟩
theorem BW.below {B : Nat} {w w' : World} {n : Nat} {l : List Value} (k : BW w n l) (h : Below B w w') (hn : n < B) : BW w' n l :=
  ⟨fun i v e => (h.cell (p := ⟨n, i, none⟩) hn).trans (k.c i v e), fun j => (h.frozen (p := ⟨n, j, none⟩) hn).trans (k.f j), by have := h.size; have := k.lt; omega⟩
theorem BW.alloc {w : World} {n : Nat} {l : List Value} (k : BW w n l) (o : Obj) : BW (w.alloc o) n l := k.below ((Below.refl w.heap.size w).alloc (Nat.le_refl _) o) k.lt
theorem BW.drew {w : World} {n : Nat} {l : List Value} (k : BW w n l) : BW w.drew n l := ⟨k.c, k.f, k.lt⟩
theorem BW.fx {W W' : World} {n b j : Nat} {q : Bool} {l : List Value} (k : BW W n l) (h : FxW W.heap.size W b j q W') (e : b ≠ n) : BW W' n l :=
  ⟨fun i v g => (h.cell k.lt e).trans (k.c i v g), fun i => (h.frozen k.lt).trans (k.f i), by have := h.size; have := k.lt; omega⟩
theorem BW.far {W : World} {n r : Nat} {l : List Value} (k : BW W n l) (e : r ≠ n) (i : Nat) (v : Value) : BW (W.setCell ⟨r, i, none⟩ v) n l := by
  have a : ∀ j, (⟨r, i, none⟩ : Addr) ≠ ⟨n, j, none⟩ := fun j h => e (congrArg Addr.block h)
  exact ⟨fun j u g => (World.cell?_setCell_other _ _ _ _ (a j)).trans (k.c j u g), fun j => (World.frozen?_setCell _ _ _ _).trans (k.f j), by rw [set_size]; exact k.lt⟩
theorem BW.h3 {W : World} {n : Nat} {a b c : Value} (k : BW W n [a, b, c]) : W.cell? ⟨n, 0, none⟩ = some a ∧ W.cell? ⟨n, 1, none⟩ = some b ∧ W.cell? ⟨n, 2, none⟩ = some c := ⟨k.c 0 _ rfl, k.c 1 _ rfl, k.c 2 _ rfl⟩
theorem BW.h4 {W : World} {n : Nat} {a b c d : Value} (k : BW W n [a, b, c, d]) : W.cell? ⟨n, 0, none⟩ = some a ∧ W.cell? ⟨n, 1, none⟩ = some b ∧ W.cell? ⟨n, 2, none⟩ = some c ∧ W.cell? ⟨n, 3, none⟩ = some d := ⟨k.c 0 _ rfl, k.c 1 _ rfl, k.c 2 _ rfl, k.c 3 _ rfl⟩
theorem BW.h9 {W : World} {n : Nat} {a b c d e f g h i : Value} (k : BW W n [a, b, c, d, e, f, g, h, i]) : W.cell? ⟨n, 0, none⟩ = some a ∧ W.cell? ⟨n, 1, none⟩ = some b ∧ W.cell? ⟨n, 2, none⟩ = some c ∧ W.cell? ⟨n, 3, none⟩ = some d ∧ W.cell? ⟨n, 4, none⟩ = some e ∧ W.cell? ⟨n, 5, none⟩ = some f ∧ W.cell? ⟨n, 6, none⟩ = some g ∧ W.cell? ⟨n, 7, none⟩ = some h ∧ W.cell? ⟨n, 8, none⟩ = some i :=
  ⟨k.c 0 _ rfl, k.c 1 _ rfl, k.c 2 _ rfl, k.c 3 _ rfl, k.c 4 _ rfl, k.c 5 _ rfl, k.c 6 _ rfl, k.c 7 _ rfl, k.c 8 _ rfl⟩
theorem Flag.set {w W : World} {b k : Nat} {o : Bool} (t : FxW w.heap.size w b k o W) {r : Nat} (h : w.heap.size ≤ r) (i : Nat) (u : Value) : FxW w.heap.size w b k o (W.setCell ⟨r, i, none⟩ u) :=
  FxW.then t ((Below.refl w.heap.size W).setCell (p := ⟨r, i, none⟩) h u) (Nat.le_refl _)
end Go.Proofs.Ytbpmbdnhfkfkhaa
