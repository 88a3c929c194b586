/- The walk of WireReads. -/
import Derived.Test.YtcljaffdochdiaaYl
import Derived.Test.YtcljaffdochdiaaYk
namespace Go.Proofs.Ytcljaffdochdiaa
open Go.RowKit
set_option linter.unusedVariables false
set_option linter.unusedSimpArgs false

/-- a word in a block of its own -/
structure OpB (W : World) (top nd m : Nat) (o : OpI) : Prop where
  c : ∀ k u, o.vals[k]? = some u → W.cell? ⟨m, k, none⟩ = some u
  lt : m < W.heap.size
  t : top ≤ m
  d : m ≠ nd
theorem OpB.mid {base top nd m : Nat} {W W' : World} {o : OpI} (h : OpB W top nd m o) (k : Mid base top W W') : OpB W' top nd m o :=
  ⟨fun i u e => (World.cell?_of_block (a := ⟨m, i, none⟩) (k.block m h.lt (Or.inr h.t))).trans (h.c i u e), by have := k.size; have := h.lt; omega, h.t, h.d⟩
theorem OpB.doc {top nd m : Nat} {W W' : World} {o : OpI} (h : OpB W top nd m o) (k : W.grownBy W' (some nd)) : OpB W' top nd m o :=
  ⟨fun i u e => (k.cell_far ⟨m, i, none⟩ h.lt (fun e => h.d (Option.some.inj e))).trans (h.c i u e), by have := k.size; have := h.lt; omega, h.t, h.d⟩
theorem OpB.step {top nd m : Nat} {W W' : World} {o : OpI} (h : OpB W top nd m o) (k : Below W.heap.size W W') : OpB W' top nd m o :=
  ⟨fun i u e => (k.cell (p := ⟨m, i, none⟩) h.lt).trans (h.c i u e), by have := k.size; have := h.lt; omega, h.t, h.d⟩
theorem OpB.new {top nd : Nat} (W : World) (o : OpI) (T : TypeId) (ht : top ≤ W.heap.size) (hd : nd < W.heap.size) : OpB (W.alloc (.cells o.vals.toArray T)) top nd W.heap.size o :=
  ⟨fun k u e => by rw [World.cell?_alloc_new W _ T k]; simpa using e, by simp, ht, by omega⟩
theorem IN.new {W : World} {a : Option Addr} {n c : Nat} {l : List Int} (T : TypeId) (h : BL W a n l) (hc : n ≤ c) (hm : c ≤ maxLen) (hn : n ≤ 1000000000) : IN (W.alloc (.cells #[.slice a n c, .int .i64 0, .int .i64 0, .int .i64 0, .int .i64 0] T)) W.heap.size a n c l ⟨0, 0, 0, 0⟩ := by
  have o : ∀ j, (W.alloc (.cells #[.slice a n c, .int .i64 0, .int .i64 0, .int .i64 0, .int .i64 0] T)).cell? ⟨W.heap.size, j, none⟩ = (#[.slice a n c, .int .i64 0, .int .i64 0, .int .i64 0, .int .i64 0] : Array Value)[j]? := fun j => World.cell?_alloc_new W _ T j
  exact ⟨o 0, o 1, o 2, o 3, o 4, fun j => by go_simp, by simp, h.below ((Below.refl _ _).alloc (Nat.le_refl _) _), fun h0 p e => by
    obtain ⟨b, off, e2, hb, _⟩ := h.c h0
    rw [e2] at e; cases e
    show b ≠ _
    omega, hc, hm, hn, Nat.zero_le _, Nat.le_refl _⟩
theorem rawV_in {m : Int} {l : List Int} {s : IS} (h : Byt l) : Byt (rawV m l s) := by
  unfold rawV
  split
  · exact wordL_in h
  · intro x hx; cases hx
end Go.Proofs.Ytcljaffdochdiaa
