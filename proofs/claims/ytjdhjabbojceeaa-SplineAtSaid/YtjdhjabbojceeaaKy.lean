/- A receiver of a statement's own; an operation that is not wanted. -/
import Derived.Test.YtjdhjabbojceeaaJa
namespace Go.Proofs.Ytjdhjabbojceeaa
open Go.RowKit

/-- a receiver of a statement's own -/
structure Own (w W : World) (n : Nat) (o : Bool) : Prop where
  a : MAt W n 0 o
  na : w.heap.size ≤ n
  bl : Below w.heap.size w W
theorem Own.fst {w W W' : World} {n : Nat} {o q : Bool} (t : Own w W n o) (h : FxW W.heap.size W n 0 q W') : Own w W' n q :=
  ⟨h.at t.a t.a.lt, t.na, t.bl.trans (h.below t.bl.size t.na)⟩
theorem Own.more {w W W' : World} {n : Nat} {o : Bool} (t : Own w W n o) (h : Below W.heap.size W W') : Own w W' n o :=
  ⟨t.a.below h t.a.lt, t.na, t.bl.trans (h.mono t.bl.size)⟩
theorem Own.drew {w W : World} {n : Nat} {o : Bool} (t : Own w W n o) : Own w W.drew n o := ⟨t.a.drew, t.na, t.bl.drew⟩
theorem Own.new {w W : World} (h : Below w.heap.size w W) (s : TypeId) : Own w (W.alloc (.cells #[.bool false] s)) W.heap.size false :=
  ⟨MAt.new W false s, h.size, h.alloc h.size _⟩
theorem own_at {w W : World} {n : Nat} (h : Below w.heap.size w W) (e : n = W.heap.size) (s : TypeId) : Own w (W.alloc (.cells #[.bool false] s)) n false := by
  subst e; exact Own.new h s
/-- operation number i, which is not wanted, is passed by; its slot d is named -/
theorem wpAnyH_skipD {P : Program} {md : Region.Mode} {ops : Array Oper} {Q : Exit → Act → World → Prop} {S : World → Prop} (i d : Nat) {fuel : Nat} {listed : Array Bool} {a : Act} {w : World}
    (hi : (ops[i]?.map fun o => o.dst) = some (some d)) (hs : Region.noSelect ops = true) (hf : Region.free md ops listed i = true) (hr : (Region.ready md ops listed).contains i = true)
    (hw : (ops[i]?.map fun o => Region.wanted o (yielded ops a.tmps)) = some false)
    (hQ : ∀ c a w, Q (.panic c) (a.put (some d) undef) w → Q (.panic c) a w) (hS : S w)
    (h : wpAnyH P md ops Q S fuel (listed.setIfInBounds i true) (a.put (some d) undef) w) : wpAnyH P md ops Q S (fuel + 1) listed a w := by
  cases ho : ops[i]? with
  | none => rw [ho] at hi; cases hi
  | some o =>
    rw [ho] at hi hw
    have e : o.dst = some d := Option.some.inj hi
    have hw' : Region.wanted o (yielded ops a.tmps) = false := Option.some.inj hw
    refine wpAnyH_take (i := i) (oi := o) (v := undef) ho hs hf hr ?_ (Or.inr ⟨hw', rfl⟩) hS ?_
    · rw [e]; exact hQ
    · rw [e]; exact h
/-- operations i and j alone are ready -/
theorem wpAnyH_twoD {P : Program} {md : Region.Mode} {ops : Array Oper} {Q : Exit → Act → World → Prop} {S : World → Prop} (i j : Nat) {fuel : Nat} {listed : Array Bool} {a : Act} {w : World}
    (hr : Region.ready md ops listed = [i, j])
    (hi : ∀ o, ops[i]? = some o → ∀ K' : Act → World → Prop, Shut (∀ a w, S w → (S w → wpAnyH P md ops Q S fuel (listed.setIfInBounds i true) a w) → K' a w) → if Region.wanted o (yielded ops a.tmps) = true then Oper.wp P o a w K' Q else K' (a.put o.dst undef) w)
    (hj : ∀ o, ops[j]? = some o → ∀ K' : Act → World → Prop, Shut (∀ a w, S w → (S w → wpAnyH P md ops Q S fuel (listed.setIfInBounds j true) a w) → K' a w) → if Region.wanted o (yielded ops a.tmps) = true then Oper.wp P o a w K' Q else K' (a.put o.dst undef) w)
    (ni : (ops[i]?.isSome) = true) (nj : (ops[j]?.isSome) = true) : wpAnyH P md ops Q S (fuel + 1) listed a w := by
  cases hoi : ops[i]? with
  | none => rw [hoi] at ni; cases ni
  | some oi =>
    cases hoj : ops[j]? with
    | none => rw [hoj] at nj; cases nj
    | some oj => exact wpAnyH_ready hr (by simp) (AllReadyH.cons hoi (hi oi hoi) (AllReadyH.cons hoj (hj oj hoj) AllReadyH.nil))
theorem VW.put {W : World} {r : Nat} {x y z : Int} (k : VW W r x y z) (a b c : Int) : VW (((W.setCell ⟨r, 0, none⟩ (.int .i64 a)).setCell ⟨r, 1, none⟩ (.int .i64 b)).setCell ⟨r, 2, none⟩ (.int .i64 c)) r a b c := by
  have n01 : (⟨r, 0, none⟩ : Addr) ≠ ⟨r, 1, none⟩ := fun h => by cases h
  have n02 : (⟨r, 0, none⟩ : Addr) ≠ ⟨r, 2, none⟩ := fun h => by cases h
  have n12 : (⟨r, 1, none⟩ : Addr) ≠ ⟨r, 2, none⟩ := fun h => by cases h
  have s1 : (W.setCell ⟨r, 0, none⟩ (.int .i64 a)).cell? ⟨r, 1, none⟩ = some (.int .i64 y) := (World.cell?_setCell_other _ _ _ _ n01).trans k.c1
  have s2 : ((W.setCell ⟨r, 0, none⟩ (.int .i64 a)).setCell ⟨r, 1, none⟩ (.int .i64 b)).cell? ⟨r, 2, none⟩ = some (.int .i64 z) := (World.cell?_setCell_other _ _ _ _ n12).trans ((World.cell?_setCell_other _ _ _ _ n02).trans k.c2)
  refine ⟨?_, ?_, ?_, fun j => ?_, ?_⟩
  · exact (World.cell?_setCell_other _ _ _ _ n02.symm).trans ((World.cell?_setCell_other _ _ _ _ n01.symm).trans (World.cell?_setCell_same _ _ _ k.c0))
  · exact (World.cell?_setCell_other _ _ _ _ n12.symm).trans (World.cell?_setCell_same _ _ _ s1)
  · exact World.cell?_setCell_same _ _ _ s2
  · rw [World.frozen?_setCell, World.frozen?_setCell, World.frozen?_setCell]; exact k.f j
  · rw [set_size, set_size, set_size]; exact k.lt
theorem Own.put {w W : World} {n r : Nat} {o : Bool} (t : Own w W n o) (e : r ≠ n) (h : w.heap.size ≤ r) (i : Nat) (v : Value) : Own w (W.setCell ⟨r, i, none⟩ v) n o := by
  have a : (⟨r, i, none⟩ : Addr) ≠ ⟨n, 0, none⟩ := fun h => e (congrArg Addr.block h)
  exact ⟨⟨(World.cell?_setCell_other _ _ _ _ a).trans t.a.c, (World.frozen?_setCell _ _ _ _).trans t.a.f, by rw [set_size]; exact t.a.lt⟩, t.na, t.bl.setCell (p := ⟨r, i, none⟩) h v⟩
end Go.Proofs.Ytjdhjabbojceeaa
