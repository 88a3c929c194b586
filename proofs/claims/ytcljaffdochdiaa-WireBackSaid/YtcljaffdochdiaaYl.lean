/- What package wire is to tell of what is read; both readers side by side. -/
import Derived.Test.YtcljaffdochdiaaYj
namespace Go.Proofs.Ytcljaffdochdiaa
open Go.RowKit
set_option linter.unusedVariables false
set_option linter.unusedSimpArgs false

/-- only blocks from base on and below top have turned, and new ones -/
structure Mid (base top : Nat) (W W' : World) : Prop where
  os : W'.os = W.os
  tape : W'.tape = W.tape
  output : W'.output = W.output
  size : W.heap.size ≤ W'.heap.size
  block : ∀ k, k < W.heap.size → (k < base ∨ top ≤ k) → W'.heap[k]? = W.heap[k]?
theorem IN.mid {W W' : World} {nb : Nat} {a : Option Addr} {n c : Nat} {l : List Int} {s : IS} {base top : Nat} (h : IN W nb a n c l s) (k : Mid base top W W') (hn : top ≤ nb) (ha : 0 < n → ∀ p, a = some p → p.block < base) : IN W' nb a n c l s := by
  have B := k.block nb h.lt (Or.inr hn)
  have C : ∀ j, W'.cell? ⟨nb, j, none⟩ = W.cell? ⟨nb, j, none⟩ := fun j => World.cell?_of_block (a := ⟨nb, j, none⟩) B
  refine ⟨(C 0).trans h.c0, (C 1).trans h.c1, (C 2).trans h.c2, (C 3).trans h.c3, (C 4).trans h.c4, fun j => (World.frozen?_of_block (a := ⟨nb, j, none⟩) B).trans (h.f j), Nat.lt_of_lt_of_le h.lt k.size, ⟨h.bl.hn, h.bl.u, fun h0 => ?_⟩, h.ne, h.nc, h.cm, h.nm, h.le, h.ll⟩
  obtain ⟨b, off, e, hb, hc⟩ := h.bl.c h0
  have := ha h0 _ e
  exact ⟨b, off, e, Nat.lt_of_lt_of_le hb k.size, fun i x hx => (World.cell?_of_block (a := ⟨b, off + i, none⟩) (k.block b hb (Or.inl this))).trans (hc i x hx)⟩
/-- the program's reader: from which block on, below which, world, block, bytes, where it stands -/
structure InT where
  P : Nat → Nat → World → Nat → List Int → IS → Prop
  keep : ∀ {base top W W' nb l s}, P base top W nb l s → W.heap.size ≤ W'.heap.size → (∀ k, base ≤ k → k < top → W'.heap[k]? = W.heap[k]?) → P base top W' nb l s
  top : ∀ {base top W nb l s}, P base top W nb l s → base ≤ top ∧ top ≤ W.heap.size
/-- what package wire tells of what is read -/
structure WireI (I : InT) : Prop where
  new : ∀ (a : Option Addr) (n c : Nat) (l : List Int) (W : World), BL W a n l → n ≤ c → c ≤ maxLen → n ≤ 100000 → Calls Try.prog 19 #[.slice a n c] W fun e W' => ∃ nb, e = .returned (.pointer (some ⟨nb, 0, none⟩)) ∧ I.P W.heap.size W'.heap.size W' nb l ⟨0, 0, 0, 0⟩ ∧ Below W.heap.size W W'
  num : ∀ base top W nb l s, I.P base top W nb l s → Calls Try.prog 24 #[.pointer (some ⟨nb, 0, none⟩)] W fun e W' => e = .returned (.int .i64 (numV l s)) ∧ I.P base top W' nb l (wordS l.length 8 s) ∧ Mid base top W W'
  count : ∀ lo hi base top W nb l s, In64Y lo → In64Y hi → I.P base top W nb l s → Calls Try.prog 20 #[.pointer (some ⟨nb, 0, none⟩), .int .i64 lo, .int .i64 hi] W fun e W' => e = .returned (.int .i64 (cntV lo hi l s)) ∧ I.P base top W' nb l (cntS lo hi l s) ∧ Mid base top W W'
  flag : ∀ base top W nb l s, I.P base top W nb l s → Calls Try.prog 21 #[.pointer (some ⟨nb, 0, none⟩)] W fun e W' => e = .returned (.bool (flagV l s)) ∧ I.P base top W' nb l (flagS l s) ∧ Mid base top W W'
  mark : ∀ t base top W nb l s, I.P base top W nb l s → Calls Try.prog 22 #[.pointer (some ⟨nb, 0, none⟩), .string t] W fun e W' => e = .returned (.tuple #[]) ∧ I.P base top W' nb l (mkS t l s) ∧ Mid base top W W'
  raw : ∀ m base top W nb l s, 0 ≤ m ∧ m ≤ 16777216 → I.P base top W nb l s → Calls Try.prog 23 #[.pointer (some ⟨nb, 0, none⟩), .int .i64 m] W fun e W' => (∃ v, e = .returned v ∧ OB W.heap.size W' v (byC (rawV m l s))) ∧ I.P base top W' nb l (rawS m l s) ∧ Mid base top W W'
  end_ : ∀ base top W nb l s, I.P base top W nb l s → Calls Try.prog 25 #[.pointer (some ⟨nb, 0, none⟩)] W fun e W' => e = .returned (.tuple #[.int .i64 (endS l.length s).err, .int .i64 (endS l.length s).place]) ∧ I.P base top W' nb l (endS l.length s) ∧ Mid base top W W'
  nilNum : ∀ W, Calls Try.prog 24 #[.pointer none] W fun e W' => e = .returned (.int .i64 0) ∧ Below W.heap.size W W'
  nilEnd : ∀ W, Calls Try.prog 25 #[.pointer none] W fun e W' => e = .returned (.tuple #[.int .i64 1, .int .i64 0]) ∧ Below W.heap.size W W'
  awake : ∀ W, Calls Try.prog 18 #[] W fun e W' => e = .returned (.bool true) ∧ Below W.heap.size W W'
/-- both readers: where the program's stands (s), where the document's (t) -/
structure RS (I : InT) (w W : World) (base top nb nd : Nat) (a : Option Addr) (n c : Nat) (l : List Int) (s t : IS) : Prop where
  p : I.P base top W nb l s
  i : IN W nd a n c l t
  b : Below w.heap.size w W
  wb : w.heap.size ≤ base
  td : top ≤ nd
  ha : 0 < n → ∀ p, a = some p → p.block < base
theorem Mid.below {base top : Nat} {w W W' : World} (h : Below w.heap.size w W) (k : Mid base top W W') (hb : w.heap.size ≤ base) : Below w.heap.size w W' :=
  h.trans ⟨k.os, k.tape, k.output, k.size, fun j hj => k.block j (by have := h.size; omega) (Or.inl (by omega))⟩
theorem RS.mine {I : InT} {w W W' : World} {base top nb nd : Nat} {a : Option Addr} {n c : Nat} {l : List Int} {s t s' : IS} (r : RS I w W base top nb nd a n c l s t) (hp : I.P base top W' nb l s') (k : Mid base top W W') : RS I w W' base top nb nd a n c l s' t :=
  ⟨hp, r.i.mid k r.td r.ha, Mid.below r.b k r.wb, r.wb, r.td, r.ha⟩
theorem RS.doc {I : InT} {w W W' : World} {base top nb nd : Nat} {a : Option Addr} {n c : Nat} {l : List Int} {s t t' : IS} (r : RS I w W base top nb nd a n c l s t) (hi : IN W' nd a n c l t') (k : W.grownBy W' (some nd)) : RS I w W' base top nb nd a n c l s t' :=
  ⟨I.keep r.p k.size (fun j h1 h2 => k.block j (by have := I.top r.p; omega) (fun e => by injection e with e; have := r.td; omega)), hi, r.b.trans ⟨k.os, k.tape, k.output, k.size, fun j hj => k.block j (by have := r.b.size; omega) (fun e => by injection e with e; have := r.td; have := r.wb; have := I.top r.p; omega)⟩, r.wb, r.td, r.ha⟩
theorem RS.step {I : InT} {w W W' : World} {base top nb nd : Nat} {a : Option Addr} {n c : Nat} {l : List Int} {s t : IS} (r : RS I w W base top nb nd a n c l s t) (h : Below W.heap.size W W') : RS I w W' base top nb nd a n c l s t :=
  ⟨I.keep r.p h.size (fun j h1 h2 => h.block j (by have := I.top r.p; omega)), r.i.grown (row := none) (grown_below h none) (fun j e => by cases e), r.b.trans (h.mono r.b.size), r.wb, r.td, r.ha⟩
end Go.Proofs.Ytcljaffdochdiaa
