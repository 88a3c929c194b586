/- A car in memory, with its tables; a whole car read at once. -/
import Derived.Test.YtbpmbdnhfkfkhaaZ9
import Derived.Test.YtbpmbdnhfkfkhaaZa
import Derived.Test.YtbpmbdnhfkfkhaaZ8
import Derived.Test.YtbpmbdnhfkfkhaaZ3
import Derived.Deep.MidRow
namespace Go.Proofs.Ytbpmbdnhfkfkhaa
open Go.RowKit
set_option linter.unusedVariables false
set_option linter.unusedSimpArgs false

/-- points in a slice, in a block below B -/
structure DzM (B : Nat) (w : World) (s : Dz) : Prop where
  hm : s.c ≤ maxLen
  hl : s.n ≤ s.c
  wf : ∀ i, i < s.n → (Lit.int .i64 (s.x i)).wf = true ∧ (Lit.int .i64 (s.y i)).wf = true
  at' : 0 < s.n → ∃ b off, s.a = some ⟨b, off, none⟩ ∧ b < B ∧ ∀ i, i < s.n → w.cell? ⟨b, off + i * 2, none⟩ = some (.int .i64 (s.x i)) ∧ w.cell? ⟨b, off + i * 2 + 1, none⟩ = some (.int .i64 (s.y i))
theorem DzM.keep {B C : Nat} {w w' : World} {s : Dz} (k : DzM B w s) (h : Below C w w') (hB : B ≤ C) : DzM B w' s :=
  ⟨k.hm, k.hl, k.wf, fun h0 => by
    obtain ⟨b, off, e, hb, hc⟩ := k.at' h0
    exact ⟨b, off, e, hb, fun i hi => ⟨(h.cell (p := ⟨b, off + i * 2, none⟩) (by show b < C; omega)).trans (hc i hi).1, (h.cell (p := ⟨b, off + i * 2 + 1, none⟩) (by show b < C; omega)).trans (hc i hi).2⟩⟩⟩
theorem DzM.dots {B : Nat} {w : World} {s : Dz} (k : DzM B w s) (hB : B ≤ w.heap.size) : Dots w s.a s.n s.c s.x s.y :=
  ⟨k.hm, k.hl, k.wf, fun h0 => by
    obtain ⟨b, off, e, hb, hc⟩ := k.at' h0
    exact ⟨b, off, e, by omega, hc⟩⟩
/-- what hangs on a car lies below B -/
structure CrM (B : Nat) (w : World) (c : Cr) : Prop where
  d : DzM B w c.d
  t : Pan B w c.t
  q : DzM B w c.q
  r : DzM B w c.r
  g : Nums B w c.g
theorem CrM.keep {B C : Nat} {w w' : World} {c : Cr} (k : CrM B w c) (h : Below C w w') (hB : B ≤ C) : CrM B w' c :=
  ⟨k.d.keep h hB, k.t.keep h hB, k.q.keep h hB, k.r.keep h hB, k.g.keep h hB⟩
/-- few points, few gears -/
def fewC (c : Cr) : Prop := c.d.n ≤ 40 ∧ c.q.n ≤ 40 ∧ c.r.n ≤ 40 ∧ c.g.n ≤ 20 ∧ fewP c.t
instance (c : Cr) : Decidable (fewC c) := by unfold fewC fewP; exact inferInstance
/-- a car that came in with all that hangs on it, and its copy in block m -/
structure CA (w W : World) (B m : Nat) (c : Cr) : Prop where
  k : BW W m (carL c)
  l : Below w.heap.size w W
  M : CrM B W c
  z : B ≤ w.heap.size
theorem CA.step {w W W' : World} {B m : Nat} {c : Cr} (Q : CA w W B m c) (h : Below W.heap.size W W') : CA w W' B m c :=
  ⟨Q.k.below h Q.k.lt, Q.l.trans (h.mono Q.l.size), Q.M.keep h (by have := Q.z; have := Q.l.size; omega), Q.z⟩
theorem CA.drew {w W : World} {B m : Nat} {c : Cr} (Q : CA w W B m c) : CA w W.drew B m c := Q.step (Below.refl _ _).drew
theorem CA.alloc {w W : World} {B m : Nat} {c : Cr} (Q : CA w W B m c) (o : Obj) : CA w (W.alloc o) B m c := Q.step ((Below.refl _ _).alloc (Nat.le_refl _) o)
theorem CA.new {w : World} {B : Nat} {c : Cr} (t : TypeId) (h : CrM B w c) (z : B ≤ w.heap.size) : CA w (w.alloc (.cells (carL c).toArray t)) B w.heap.size c :=
  ⟨BW.new w _ (carL c) t rfl, (Below.refl _ _).alloc (Nat.le_refl _) _, h.keep ((Below.refl w.heap.size w).alloc (Nat.le_refl _) _) z, z⟩
theorem CA.bz {w W : World} {B m : Nat} {c : Cr} (Q : CA w W B m c) : B ≤ W.heap.size := by have := Q.z; have := Q.l.size; omega
/-- a whole car is read -/
theorem car_load {W : World} {m : Nat} {c : Cr} (K : BW W m (carL c)) : (Instr.loadAt 37 (.pointer (some ⟨m, 0, none⟩))).run Try.prog W = .ok (.agg (carL c).toArray) W :=
  run_loadAt_mid W m 0 _ (carL c) _ (fun j v h => by rw [Nat.zero_add]; exact K.c j v h) Try.underlying37 rfl (by kernel_rfl)
/-- a wheel of it is read: number i -/
theorem wheel_load {W : World} {m : Nat} {c : Cr} (K : BW W m (carL c)) (i : Nat) (hi : i < 4) :
    (Instr.loadAt 26 (.pointer (some ⟨m, 4 + i * 10, none⟩))).run Try.prog W = .ok (.agg (wheelL (fun k => c.f (4 + i * 10 + k)) (c.p (12 + i * 10)) (c.p (13 + i * 10))).toArray) W := by
  refine run_loadAt_mid W m (4 + i * 10) _ (wheelL (fun k => c.f (4 + i * 10 + k)) (c.p (12 + i * 10)) (c.p (13 + i * 10))) _ (fun j v h => ?_) Try.underlying26 rfl (by kernel_rfl)
  refine K.c _ v ?_
  have e : i = 0 ∨ i = 1 ∨ i = 2 ∨ i = 3 := by omega
  have hj : j < 10 := by
    rcases Nat.lt_or_ge j 10 with l | l
    · exact l
    · rw [List.getElem?_eq_none (by show 10 ≤ j; exact l)] at h; cases h
  have e2 : j = 0 ∨ j = 1 ∨ j = 2 ∨ j = 3 ∨ j = 4 ∨ j = 5 ∨ j = 6 ∨ j = 7 ∨ j = 8 ∨ j = 9 := by omega
  rcases e with rfl | rfl | rfl | rfl <;> rcases e2 with rfl | rfl | rfl | rfl | rfl | rfl | rfl | rfl | rfl | rfl <;> exact h
end Go.Proofs.Ytbpmbdnhfkfkhaa
