/- What a walk keeps of many blocks; the area's numbers fit. -/
import Derived.Test.YtjdhjabbojceeaaNd
import Derived.Test.YtjdhjabbojceeaaBh
import Derived.Test.YtjdhjabbojceeaaBg
import Derived.Test.YtjdhjabbojceeaaKy
import Derived.Deep.DeepCutAuto
namespace Go.Proofs.Ytjdhjabbojceeaa
open Go.RowKit
set_option linter.unusedVariables false
set_option linter.unusedSimpArgs false

/-- the blocks of a list hold their values, and nothing of w is turned -/
structure St (w W : World) (L : List (Nat × List Value)) : Prop where
  b : ∀ n l, (n, l) ∈ L → BW W n l
  l : Below w.heap.size w W
theorem St.step {w W W' : World} {L : List (Nat × List Value)} (k : St w W L) (h : Below W.heap.size W W') : St w W' L :=
  ⟨fun n l e => (k.b n l e).below h (k.b n l e).lt, k.l.trans (h.mono k.l.size)⟩
theorem St.drew {w W : World} {L : List (Nat × List Value)} (k : St w W L) : St w W.drew L := ⟨fun n l e => (k.b n l e).drew, k.l.drew⟩
theorem St.alloc {w W : World} {L : List (Nat × List Value)} (k : St w W L) (o : Obj) : St w (W.alloc o) L := k.step ((Below.refl _ _).alloc (Nat.le_refl _) o)
theorem St.far {w W : World} {L : List (Nat × List Value)} (k : St w W L) {r : Nat} (h : w.heap.size ≤ r) (hr : ∀ n l, (n, l) ∈ L → r ≠ n) (i : Nat) (v : Value) : St w (W.setCell ⟨r, i, none⟩ v) L :=
  ⟨fun n l e => (k.b n l e).far (hr n l e) i v, k.l.setCell (p := ⟨r, i, none⟩) h v⟩
theorem St.nil {w W : World} (h : Below w.heap.size w W) : St w W [] := ⟨(fun n l e => by simp at e), h⟩
theorem St.cons {w W : World} {L : List (Nat × List Value)} {n : Nat} {l : List Value} (a : BW W n l) (k : St w W L) : St w W ((n, l) :: L) :=
  ⟨fun m q e => by
    rcases List.mem_cons.1 e with h | h
    · cases h; exact a
    · exact k.b m q h, k.l⟩
theorem BW.h2' {W : World} {n : Nat} {a b : Value} (k : BW W n [a, b]) : W.cell? ⟨n, 0, none⟩ = some a ∧ W.cell? ⟨n, 1, none⟩ = some b := ⟨k.c 0 _ rfl, k.c 1 _ rfl⟩
theorem BW.far5 {W : World} {n r : Nat} {l : List Value} (k : BW W n l) (e : r ≠ n) (u0 u1 u2 u3 u4 : Value) : BW (((((W.setCell ⟨r, 0, none⟩ u0).setCell ⟨r, 1, none⟩ u1).setCell ⟨r, 2, none⟩ u2).setCell ⟨r, 3, none⟩ u3).setCell ⟨r, 4, none⟩ u4) n l :=
  ((((k.far e 0 u0).far e 1 u1).far e 2 u2).far e 3 u3).far e 4 u4
theorem BW.put5 {W : World} {n : Nat} {a b c d e : Value} (k : BW W n [a, b, c, d, e]) (u0 u1 u2 u3 u4 : Value) : BW (((((W.setCell ⟨n, 0, none⟩ u0).setCell ⟨n, 1, none⟩ u1).setCell ⟨n, 2, none⟩ u2).setCell ⟨n, 3, none⟩ u3).setCell ⟨n, 4, none⟩ u4) n [u0, u1, u2, u3, u4] :=
  (((((k.put (i := 0) u0 a rfl).put (i := 1) u1 b rfl).put (i := 2) u2 c rfl).put (i := 3) u3 d rfl).put (i := 4) u4 e rfl)
theorem below_put5 {w W : World} (k : Below w.heap.size w W) {r : Nat} (h : w.heap.size ≤ r) (u0 u1 u2 u3 u4 : Value) : Below w.heap.size w (((((W.setCell ⟨r, 0, none⟩ u0).setCell ⟨r, 1, none⟩ u1).setCell ⟨r, 2, none⟩ u2).setCell ⟨r, 3, none⟩ u3).setCell ⟨r, 4, none⟩ u4) :=
  ((((k.setCell (p := ⟨r, 0, none⟩) h u0).setCell (p := ⟨r, 1, none⟩) h u1).setCell (p := ⟨r, 2, none⟩) h u2).setCell (p := ⟨r, 3, none⟩) h u3).setCell (p := ⟨r, 4, none⟩) h u4
/-- the area's numbers fit -/
theorem area_fit {ax ay bx by' px py : Int} (h1 : Rg ax) (h2 : Rg ay) (h3 : Rg bx) (h4 : Rg by') (h5 : Rg px) (h6 : Rg py) :
    In128 ((bx - ax) * (py - ay)) ∧ In128 ((by' - ay) * (px - ax)) ∧ In128 (-((by' - ay) * (px - ax))) ∧ clipW ((bx - ax) * (py - ay) + -((by' - ay) * (px - ax))) = area ⟨ax, ay⟩ ⟨bx, by'⟩ ⟨px, py⟩ ∧ In128 (area ⟨ax, ay⟩ ⟨bx, by'⟩ ⟨px, py⟩) := by
  unfold Rg at *
  have m1 := mul_bound (a := bx - ax) (b := py - ay) (by omega) (by omega) (by omega) (by omega)
  have m2 := mul_bound (a := by' - ay) (b := px - ax) (by omega) (by omega) (by omega) (by omega)
  have p1 : ∀ {x y : Int}, -562949953421312 ≤ x → x ≤ 562949953421312 → -562949953421312 ≤ y → y ≤ 562949953421312 → -316912650057057350374175801344 ≤ x * y ∧ x * y ≤ 316912650057057350374175801344 := by
    intro x y x0 x1 y0 y1
    have h1 : 0 ≤ (562949953421312 - x) * (562949953421312 + y) := Int.mul_nonneg (by omega) (by omega)
    have h2 : 0 ≤ (562949953421312 + x) * (562949953421312 - y) := Int.mul_nonneg (by omega) (by omega)
    have h3 : 0 ≤ (562949953421312 - x) * (562949953421312 - y) := Int.mul_nonneg (by omega) (by omega)
    have h4 : 0 ≤ (562949953421312 + x) * (562949953421312 + y) := Int.mul_nonneg (by omega) (by omega)
    have e1 : (562949953421312 - x) * (562949953421312 + y) = 316912650057057350374175801344 + 562949953421312 * y - 562949953421312 * x - x * y := by grind
    have e2 : (562949953421312 + x) * (562949953421312 - y) = 316912650057057350374175801344 - 562949953421312 * y + 562949953421312 * x - x * y := by grind
    have e3 : (562949953421312 - x) * (562949953421312 - y) = 316912650057057350374175801344 - 562949953421312 * y - 562949953421312 * x + x * y := by grind
    have e4 : (562949953421312 + x) * (562949953421312 + y) = 316912650057057350374175801344 + 562949953421312 * y + 562949953421312 * x + x * y := by grind
    omega
  have q1 := p1 (x := bx - ax) (y := py - ay) (by omega) (by omega) (by omega) (by omega)
  have q2 := p1 (x := by' - ay) (y := px - ax) (by omega) (by omega) (by omega) (by omega)
  unfold area
  simp only []
  generalize (bx - ax) * (py - ay) = k at *
  generalize (by' - ay) * (px - ax) = m at *
  have i1 : In128 (k + -m) := by unfold In128; omega
  refine ⟨by unfold In128; omega, by unfold In128; omega, by unfold In128; omega, ?_, by unfold In128; omega⟩
  unfold clipW
  rw [if_pos i1]; omega
theorem St.tail {w W : World} {L : List (Nat × List Value)} {x : Nat × List Value} (k : St w W (x :: L)) : St w W L := ⟨fun n l e => k.b n l (List.mem_cons_of_mem _ e), k.l⟩
theorem St.far5 {w W : World} {L : List (Nat × List Value)} (k : St w W L) {r : Nat} (h : w.heap.size ≤ r) (hr : ∀ n l, (n, l) ∈ L → r ≠ n) (u0 u1 u2 u3 u4 : Value) : St w (((((W.setCell ⟨r, 0, none⟩ u0).setCell ⟨r, 1, none⟩ u1).setCell ⟨r, 2, none⟩ u2).setCell ⟨r, 3, none⟩ u3).setCell ⟨r, 4, none⟩ u4) L :=
  ((((k.far h hr 0 u0).far h hr 1 u1).far h hr 2 u2).far h hr 3 u3).far h hr 4 u4
theorem ar_ne {w W : World} {L : List (Nat × List Value)} (k : St w W L) : ∀ n l, (n, l) ∈ L → W.heap.size ≠ n := fun n l e => by have := (k.b n l e).lt; omega
end Go.Proofs.Ytjdhjabbojceeaa
