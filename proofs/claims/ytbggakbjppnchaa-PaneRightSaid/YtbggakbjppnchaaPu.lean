/- Contracts of the program's pane: Row, places (lists made whole, then filled). -/
import Derived.Test.YtbggakbjppnchaaPt
import Derived.OwnWalk
namespace Go.Proofs.Ytbggakbjppnchaa
open Go.RowKit
set_option linter.unusedVariables false
set_option linter.unusedSimpArgs false

/-- n points in a block of the call's own, and what they hold -/
structure MkD (base : Nat) (W : World) (g n : Nat) (X Y : Nat → Int) : Prop where
  b : base ≤ g
  lt : g < W.heap.size
  f : ∀ j, W.frozen? ⟨g, j, none⟩ = false
  c : ∀ i, i < n → W.cell? ⟨g, i * 2, none⟩ = some (.int .i64 (X i)) ∧ W.cell? ⟨g, i * 2 + 1, none⟩ = some (.int .i64 (Y i))
theorem MkD.below {base : Nat} {W W' : World} {g n : Nat} {X Y : Nat → Int} (h : MkD base W g n X Y) (k : Below W.heap.size W W') : MkD base W' g n X Y :=
  ⟨h.b, by have := h.lt; have := k.size; omega, fun j => (k.frozen (p := ⟨g, j, none⟩) h.lt).trans (h.f j), fun i hi => ⟨(k.cell (p := ⟨g, i * 2, none⟩) h.lt).trans (h.c i hi).1, (k.cell (p := ⟨g, i * 2 + 1, none⟩) h.lt).trans (h.c i hi).2⟩⟩
theorem MkD.congr {base : Nat} {W : World} {g n : Nat} {X Y X' Y' : Nat → Int} (h : MkD base W g n X Y) (k : ∀ i, i < n → X i = X' i ∧ Y i = Y' i) : MkD base W g n X' Y' :=
  ⟨h.b, h.lt, h.f, fun i hi => by rw [← (k i hi).1, ← (k i hi).2]; exact h.c i hi⟩
theorem MkD.setX {base : Nat} {W : World} {g n : Nat} {X Y : Nat → Int} (h : MkD base W g n X Y) {k : Nat} (hk : k < n) (x : Int) : MkD base (W.setCell ⟨g, k * 2, none⟩ (.int .i64 x)) g n (fun i => if i = k then x else X i) Y :=
  ⟨h.b, by rw [set_size]; exact h.lt, fun j => (World.frozen?_setCell _ _ _ _).trans (h.f j), fun i hi => by
    constructor
    · by_cases e : i = k
      · subst e; rw [if_pos rfl]; exact World.cell?_setCell_same _ _ _ (h.c i hi).1
      · rw [if_neg e]; exact (World.cell?_setCell_other _ _ _ _ (fun q => e (by have := congrArg Addr.off q; simp at this; omega))).trans (h.c i hi).1
    · exact (World.cell?_setCell_other _ _ _ _ (fun q => by have := congrArg Addr.off q; simp at this; omega)).trans (h.c i hi).2⟩
theorem MkD.setY {base : Nat} {W : World} {g n : Nat} {X Y : Nat → Int} (h : MkD base W g n X Y) {k : Nat} (hk : k < n) (x : Int) : MkD base (W.setCell ⟨g, k * 2 + 1, none⟩ (.int .i64 x)) g n X (fun i => if i = k then x else Y i) :=
  ⟨h.b, by rw [set_size]; exact h.lt, fun j => (World.frozen?_setCell _ _ _ _).trans (h.f j), fun i hi => by
    constructor
    · exact (World.cell?_setCell_other _ _ _ _ (fun q => by have := congrArg Addr.off q; simp at this; omega)).trans (h.c i hi).1
    · by_cases e : i = k
      · subst e; rw [if_pos rfl]; exact World.cell?_setCell_same _ _ _ (h.c i hi).2
      · rw [if_neg e]; exact (World.cell?_setCell_other _ _ _ _ (fun q => e (by have := congrArg Addr.off q; simp at this; omega))).trans (h.c i hi).2⟩
theorem MkD.dots {base : Nat} {W : World} {g n : Nat} {X Y : Nat → Int} (h : MkD base W g n X Y) (hn : n ≤ maxLen) (wf : ∀ i, i < n → (Lit.int .i64 (X i)).wf = true ∧ (Lit.int .i64 (Y i)).wf = true) : Dots W (some ⟨g, 0, none⟩) n n X Y :=
  ⟨hn, Nat.le_refl _, wf, fun _ => ⟨g, 0, rfl, h.lt, fun i hi => by rw [Nat.zero_add]; exact h.c i hi⟩⟩
/-- the first k of v, behind them zeros -/
def firstK (v : Nat → Int) (k i : Nat) : Int := if i < k then v i else 0
theorem firstK_succ (v : Nat → Int) (k i : Nat) : (if i = k then v k else firstK v k i) = firstK v (k + 1) i := by
  unfold firstK
  by_cases e : i = k
  · subst e; rw [if_pos rfl, if_pos (by omega)]
  · rw [if_neg e]
    by_cases l : i < k
    · rw [if_pos l, if_pos (by omega)]
    · rw [if_neg l, if_neg (by omega)]
theorem made_cells (n : Nat) : ∀ j, j < n * 2 → (madeCells (Value.agg #[.int .i64 0, .int .i64 0]).cells (n * 2)).toList[j]? = some (.int .i64 0) := by
  intro j hj
  have h2 : (Value.agg #[.int .i64 0, .int .i64 0]).cells = #[.int .i64 0, .int .i64 0] := rfl
  rw [h2]
  unfold madeCells
  rw [Array.toList_map, List.getElem?_map, Array.toList_range, List.getElem?_range hj]
  have : j % 2 = 0 ∨ j % 2 = 1 := by omega
  rcases this with e | e <;> simp [e] <;> omega
theorem MkD.new {W : World} {base g n : Nat} {e : TypeId} {cs : List Value} (h : W.ownsRow base e 2 (.slice (some ⟨g, 0, none⟩) n n) n cs) (hc : ∀ j, j < n * 2 → cs[j]? = some (.int .i64 0)) : MkD base W g n (firstK (fun _ => 0) 0) (firstK (fun _ => 0) 0) := by
  have hcs := h.cells (g := g) rfl
  obtain ⟨_, ⟨c, _⟩ | ⟨g2, cap, cur, hv, hb, hg, hn, hm, hs, ht⟩⟩ := h
  · cases c
  · cases hv
    have hlt : g < W.heap.size := by
      rcases Nat.lt_or_ge g W.heap.size with l | l
      · exact l
      · rw [Array.getElem?_eq_none l] at hg; cases hg
    have a0 : ∀ j, (⟨g, 0, none⟩ : Addr).add j = ⟨g, j, none⟩ := fun j => by unfold Addr.add; split <;> simp_all
    refine ⟨hb, hlt, fun j => ?_, fun i hi => ?_⟩
    · unfold World.frozen?; rw [hg]; simp
    · have k0 := hcs _ _ (hc (i * 2) (by omega))
      have k1 := hcs _ _ (hc (i * 2 + 1) (by omega))
      rw [a0] at k0 k1
      have z : firstK (fun _ => 0) 0 i = 0 := by unfold firstK; split <;> rfl
      rw [z]
      exact ⟨k0, k1⟩
/-- the cells that a point of a row is made of -/
def RoS (m bx ox br orr k : Nat) (sx : Value) (x v : Int) (W : World) : Prop :=
  W.cell? ⟨m, 0, none⟩ = some sx ∧ W.cell? ⟨bx, ox + k, none⟩ = some (.int .i64 x) ∧ W.cell? ⟨br, orr + k, none⟩ = some (.int .i64 v)
theorem RoS.keep {m bx ox br orr k : Nat} {sx : Value} {x v : Int} {W W' : World} {C : Nat} (h : Below C W W') (h1 : m < C ∧ bx < C ∧ br < C) (S : RoS m bx ox br orr k sx x v W) : RoS m bx ox br orr k sx x v W' :=
  ⟨(h.cell (p := ⟨m, 0, none⟩) h1.1).trans S.1, (h.cell (p := ⟨bx, _, none⟩) h1.2.1).trans S.2.1, (h.cell (p := ⟨br, _, none⟩) h1.2.2).trans S.2.2⟩
set_option maxRecDepth 100000 in
set_option maxHeartbeats 8000000 in
theorem pRow_new (p : Pn) (i : Int) (B : Nat) (w : World) (hB : B ≤ w.heap.size) (F : fewP p) (K : Pan B w p) (hi : In64 i) :
    Calls Try.prog 13 #[.agg #[.slice p.x.a p.x.n p.x.c, .slice p.y.a p.y.n p.y.c, .slice p.a p.n p.c], .int .i64 i] w fun e w' => ∃ a c, e = .returned (.slice a (rowM p i) c) ∧ Dots w' a (rowM p i) c p.x.v (p.r i.toNat).v ∧ Below w.heap.size w w' ∧ ∀ q, a = some q → w.heap.size ≤ q.block := by
  have Q0 := Lib.hid (PQ.new 25 K hB)
  by_cases hin : 0 ≤ i ∧ i < (p.n : Int)
  rotate_left
  · have M : rowM p i = 0 := by
      unfold rowM
      by_cases h0 : 0 ≤ i
      · rw [if_pos h0]; unfold rowN; rw [if_neg (by omega)]
      · rw [if_neg h0]
    rw [M]
    clear M K F
    by_cases h0 : i < 0
    · go_enter Try.func13, Try.ntmps13
      go_wp2
      go_ret
      exact ⟨none, 0, rfl, ⟨by unfold maxLen; omega, by omega, fun i h => absurd h (by omega), fun h => absurd h (by omega)⟩, Q0.out.l, fun q e => by cases e⟩
    · have h1 : ¬ i < (p.n : Int) := by omega
      have h2 : (p.n : Int) ≤ i := by omega
      go_enter Try.func13, Try.ntmps13
      go_wp2
      go_ret
      exact ⟨none, 0, rfl, ⟨by unfold maxLen; omega, by omega, fun i h => absurd h (by omega), fun h => absurd h (by omega)⟩, Q0.out.l, fun q e => by cases e⟩
  obtain ⟨j, hj⟩ : ∃ j : Nat, i = (j : Int) := ⟨i.toNat, by omega⟩
  subst hj
  have hjn : j < p.n := by omega
  have M : rowM p (j : Int) = min p.x.n (p.r j).n := by unfold rowM rowN; rw [if_pos (by omega), if_pos (by omega)]; rfl
  rw [M, show (j : Int).toNat = j from rfl]
  have F1 := F.1
  have F2 := F.2.2.2 j hjn
  have F3 := F.2.2.1
  clear M hi hin F
  obtain ⟨⟨xa, xn, xc, xv⟩, ⟨ya, yn, yc, yv⟩, a, n, c, r⟩ := p
  dsimp only at *
  obtain ⟨i0, hi, hz0, hz1, hz2⟩ := info_parts dotInfo
  have U := Try.underlying33
  obtain ⟨b, off, ha, hb, hcell⟩ := K.at' (by show 0 < n; omega)
  dsimp only at ha hcell
  subst ha
  have c3 : w.cell? ⟨b, off + j, none⟩ = some (.slice (r j).a (r j).n (r j).c) := hcell j hjn
  have C3 := Lib.hid c3
  have KX := Lib.hid K.x
  have KR := Lib.hid (K.r j hjn)
  dsimp only at KX KR
  generalize hr : r j = s at *
  obtain ⟨ra, rn, rc, rv⟩ := s
  dsimp only at *
  have R := Lib.hid hr
  obtain ⟨N, hN⟩ : ∃ N, min xn rn = N := ⟨_, rfl⟩
  rw [hN]
  have HN := Lib.hid hN
  clear hcell hr K hN
  go_enter Try.func13, Try.ntmps13
  have z4 : ¬ (j : Int) < 0 := by omega
  have z5 : ¬ (n : Int) ≤ (j : Int) := by omega
  have z0 : (0 : Int) ≤ (j : Int) := by omega
  have z1 : (j : Int) < (n : Int) := by omega
  have hbw : b < w.heap.size := by omega
  have HN2 := Lib.hid (show ((min (xn : Int) (rn : Int) : Int)) = (N : Int) by have := HN.out; omega)
  have hN40 : N ≤ 40 := by have := HN.out; omega
  go_wp2_with (at_make; refine wpList_make_full _ rfl _ _ 33 rfl (w.heap.size + 1) 50 i0 (.agg #[.int .i64 0, .int .i64 0]) 2 U hi hz0 hz1 .i64 .i64 _ _ N rfl rfl HN2.out HN2.out (by rw [hz2]; omega) (by unfold maxLen; omega) (by simp) ?_; intro w0 hown0 hgrow0)
  refine wp_gen (S := fun W => PQ w W B w.heap.size ⟨⟨xa, xn, xc, xv⟩, ⟨ya, yn, yc, yv⟩, some ⟨b, off, none⟩, n, c, r⟩ ∧ MkD (w.heap.size + 1) W (w.heap.size + 1) N (firstK xv 0) (firstK rv 0)) ⟨Q0.out.step ⟨hgrow0.os, hgrow0.tape, hgrow0.output, hgrow0.size, fun k hk => hgrow0.block k hk (by simp)⟩, (MkD.new (by rw [World.size_alloc] at hown0; exact hown0) (made_cells N)).congr (fun i hi => ⟨by unfold firstK; simp, by unfold firstK; simp⟩)⟩ (fun W1 hS => ?_)
  have Q1 := Lib.hid hS.1
  have D1 := Lib.hid hS.2
  clear hS Q0 hown0 hgrow0
  go_loopw [31] (fun i wr => ∃ k : Nat, k ≤ N ∧ i = .int .i64 k ∧ PQ w wr B w.heap.size ⟨⟨xa, xn, xc, xv⟩, ⟨ya, yn, yc, yv⟩, some ⟨b, off, none⟩, n, c, r⟩ ∧ MkD (w.heap.size + 1) wr (w.heap.size + 1) N (firstK xv k) (firstK rv k)) (fun i _ => N - (intOf i).toNat)
  case atStart => exact ⟨0, by omega, rfl, Q1.out, D1.out⟩
  case round =>
    obtain ⟨k, hk, rfl, hQ, hD⟩ := hrel
    have Q2 := Lib.hid hQ
    have D2 := Lib.hid hD
    clear hQ hD Q1 D1
    obtain ⟨c0, c1, c2⟩ := Q2.out.k.h3
    dsimp only at c0 c1 c2
    by_cases hlt : k < N
    · have z2 : (k : Int) < (xn : Int) := by have := HN.out; omega
      have z3 : (k : Int) < (rn : Int) := by have := HN.out; omega
      have z6 : (0 : Int) ≤ (k : Int) := by omega
      have z7 : (k : Int) < (N : Int) := by omega
      obtain ⟨bx, ox, hxa, hbx, hcx⟩ := KX.out.at' (by show 0 < xn; omega)
      obtain ⟨br, orr, hra, hbr, hcr⟩ := KR.out.at' (by show 0 < rn; omega)
      dsimp only at hxa hra hcx hcr
      subst hxa
      subst hra
      have c5 : wr.cell? ⟨bx, ox + k, none⟩ = some (.int .i64 (xv k)) := (Q2.out.l.cell (p := ⟨bx, _, none⟩) (by show bx < w.heap.size; omega)).trans (hcx k (by omega))
      have c6 : wr.cell? ⟨br, orr + k, none⟩ = some (.int .i64 (rv k)) := (Q2.out.l.cell (p := ⟨br, _, none⟩) (by show br < w.heap.size; omega)).trans (hcr k (by omega))
      clear hcx hcr
      have S0 := Lib.hid (show RoS w.heap.size bx ox br orr k (.slice (some ⟨bx, ox, none⟩) xn xc) (xv k) (rv k) wr from ⟨c0, c5, c6⟩)
      have D3 := Lib.hid (D2.out.below (Below.refl _ _).drew)
      have Q3 := Lib.hid Q2.out.drew
      have hbs : w.heap.size < w.heap.size + 1 ∧ bx < w.heap.size + 1 ∧ br < w.heap.size + 1 := by omega
      clear D2 Q2 c1 c2
      go_wp2_with fail
      refine wp_region_held_drew (S := RoS w.heap.size bx ox br orr k (.slice (some ⟨bx, ox, none⟩) xn xc) (xv k) (rv k)) (by kernel_rfl) (S0.out.keep (Below.refl (w.heap.size + 1) wr).drew hbs) (fun hHeld => ?_)
      have S0 := Lib.hid (S0.out.keep (Below.refl (w.heap.size + 1) wr).drew hbs)
      clear c0 c5 c6
      generalize wr.drew = w1 at *
      unfold RoS at hHeld ⊢
      refine wpAnyH_takeD 0 34 (v := ?_) (by kernel_rfl) (by kernel_rfl) (by kernel_rfl) (by kernel_rfl) (by rfl) (fun _ _ _ h => h) ?_ hHeld ?_
      rotate_left 1
      (intro o ho W hSw; simp only [List.getElem?_toArray, List.getElem?_cons_succ, List.getElem?_cons_zero, Option.some.injEq] at ho; subst ho; (try dsimp only at hSw); go_simp; try with_reducible rfl)
      (try simp only [Act.put, List.setIfInBounds_toArray, List.set_cons_zero, List.set_cons_succ])
      refine wpAnyH_takeD 1 35 (v := ?_) (by kernel_rfl) (by kernel_rfl) (by kernel_rfl) (by kernel_rfl) (by rfl) (fun _ _ _ h => h) ?_ hHeld ?_
      rotate_left 1
      (intro o ho W hSw; simp only [List.getElem?_toArray, List.getElem?_cons_succ, List.getElem?_cons_zero, Option.some.injEq] at ho; subst ho; (try dsimp only at hSw); go_simp; try with_reducible rfl)
      (try simp only [Act.put, List.setIfInBounds_toArray, List.set_cons_zero, List.set_cons_succ])
      refine wpAnyH_takeD 2 36 (v := ?_) (by kernel_rfl) (by kernel_rfl) (by kernel_rfl) (by kernel_rfl) (by rfl) (fun _ _ _ h => h) ?_ hHeld ?_
      rotate_left 1
      (intro o ho W hSw; simp only [List.getElem?_toArray, List.getElem?_cons_succ, List.getElem?_cons_zero, Option.some.injEq] at ho; subst ho; (try dsimp only at hSw); go_simp; try with_reducible rfl)
      (try simp only [Act.put, List.setIfInBounds_toArray, List.set_cons_zero, List.set_cons_succ])
      refine wpAnyH_takeD 3 37 (v := ?_) (by kernel_rfl) (by kernel_rfl) (by kernel_rfl) (by kernel_rfl) (by rfl) (fun _ _ _ h => h) ?_ hHeld ?_
      rotate_left 1
      (intro o ho W hSw; simp only [List.getElem?_toArray, List.getElem?_cons_succ, List.getElem?_cons_zero, Option.some.injEq] at ho; subst ho; (try dsimp only at hSw); go_simp; try with_reducible rfl)
      (try simp only [Act.put, List.setIfInBounds_toArray, List.set_cons_zero, List.set_cons_succ])
      refine wpAnyH_takeD 4 38 (v := ?_) (by kernel_rfl) (by kernel_rfl) (by kernel_rfl) (by kernel_rfl) (by rfl) (fun _ _ _ h => h) ?_ hHeld ?_
      rotate_left 1
      (intro o ho W hSw; simp only [List.getElem?_toArray, List.getElem?_cons_succ, List.getElem?_cons_zero, Option.some.injEq] at ho; subst ho; (try dsimp only at hSw); go_simp; try with_reducible rfl)
      (try simp only [Act.put, List.setIfInBounds_toArray, List.set_cons_zero, List.set_cons_succ])
      refine wpAnyH_takeD 5 39 (v := ?_) (by kernel_rfl) (by kernel_rfl) (by kernel_rfl) (by kernel_rfl) (by rfl) (fun _ _ _ h => h) ?_ hHeld ?_
      rotate_left 1
      (intro o ho W hSw; simp only [List.getElem?_toArray, List.getElem?_cons_succ, List.getElem?_cons_zero, Option.some.injEq] at ho; subst ho; (try dsimp only at hSw); go_simp; try with_reducible rfl)
      (try simp only [Act.put, List.setIfInBounds_toArray, List.set_cons_zero, List.set_cons_succ])
      refine wpAnyH_takeD 6 40 (v := ?_) (by kernel_rfl) (by kernel_rfl) (by kernel_rfl) (by kernel_rfl) (by rfl) (fun _ _ _ h => h) ?_ hHeld ?_
      rotate_left 1
      (intro o ho W hSw; simp only [List.getElem?_toArray, List.getElem?_cons_succ, List.getElem?_cons_zero, Option.some.injEq] at ho; subst ho; (try dsimp only at hSw); go_simp; try with_reducible rfl)
      (try simp only [Act.put, List.setIfInBounds_toArray, List.set_cons_zero, List.set_cons_succ])
      refine wpAnyH_takeD 7 41 (v := ?_) (by kernel_rfl) (by kernel_rfl) (by kernel_rfl) (by kernel_rfl) (by rfl) (fun _ _ _ h => h) ?_ hHeld ?_
      rotate_left 1
      (intro o ho W hSw; simp only [List.getElem?_toArray, List.getElem?_cons_succ, List.getElem?_cons_zero, Option.some.injEq] at ho; subst ho; (try dsimp only at hSw); go_simp; try with_reducible rfl)
      (try simp only [Act.put, List.setIfInBounds_toArray, List.set_cons_zero, List.set_cons_succ])
      refine wpAnyH_takeD 8 42 (v := ?_) (by kernel_rfl) (by kernel_rfl) (by kernel_rfl) (by kernel_rfl) (by rfl) (fun _ _ _ h => h) ?_ hHeld ?_
      rotate_left 1
      (intro o ho W hSw; simp only [List.getElem?_toArray, List.getElem?_cons_succ, List.getElem?_cons_zero, Option.some.injEq] at ho; subst ho; (try dsimp only at hSw); go_simp; try with_reducible rfl)
      (try simp only [Act.put, List.setIfInBounds_toArray, List.set_cons_zero, List.set_cons_succ])
      refine wpAnyH_takeD 9 43 (v := ?_) (by kernel_rfl) (by kernel_rfl) (by kernel_rfl) (by kernel_rfl) (by rfl) (fun _ _ _ h => h) ?_ hHeld ?_
      rotate_left 1
      (intro o ho W hSw; simp only [List.getElem?_toArray, List.getElem?_cons_succ, List.getElem?_cons_zero, Option.some.injEq] at ho; subst ho; (try dsimp only at hSw); go_simp; try with_reducible rfl)
      (try simp only [Act.put, List.setIfInBounds_toArray, List.set_cons_zero, List.set_cons_succ])
      refine wpAnyH_takeD 10 44 (v := ?_) (by kernel_rfl) (by kernel_rfl) (by kernel_rfl) (by kernel_rfl) (by rfl) (fun _ _ _ h => h) ?_ hHeld ?_
      rotate_left 1
      (intro o ho W hSw; simp only [List.getElem?_toArray, List.getElem?_cons_succ, List.getElem?_cons_zero, Option.some.injEq] at ho; subst ho; (try dsimp only at hSw); go_simp; try with_reducible rfl)
      (try simp only [Act.put, List.setIfInBounds_toArray, List.set_cons_zero, List.set_cons_succ])
      refine wpAnyH_takeD 11 45 (v := ?_) (by kernel_rfl) (by kernel_rfl) (by kernel_rfl) (by kernel_rfl) (by rfl) (fun _ _ _ h => h) ?_ hHeld ?_
      rotate_left 1
      (intro o ho W hSw; simp only [List.getElem?_toArray, List.getElem?_cons_succ, List.getElem?_cons_zero, Option.some.injEq] at ho; subst ho; (try dsimp only at hSw); go_simp; try with_reducible rfl)
      (try simp only [Act.put, List.setIfInBounds_toArray, List.set_cons_zero, List.set_cons_succ])
      refine wpAnyH_takeD 12 46 (v := ?_) (by kernel_rfl) (by kernel_rfl) (by kernel_rfl) (by kernel_rfl) (by rfl) (fun _ _ _ h => h) ?_ hHeld ?_
      rotate_left 1
      (intro o ho W hSw; simp only [List.getElem?_toArray, List.getElem?_cons_succ, List.getElem?_cons_zero, Option.some.injEq] at ho; subst ho; (try dsimp only at hSw); go_simp; try with_reducible rfl)
      (try simp only [Act.put, List.setIfInBounds_toArray, List.set_cons_zero, List.set_cons_succ])
      refine wpAnyH_onlyD 13 (by kernel_rfl) (fun o ho K hK => ?_) (by kernel_rfl)
      simp only [List.getElem?_toArray, List.getElem?_cons_succ, List.getElem?_cons_zero, Option.some.injEq] at ho
      subst ho
      obtain ⟨k0, k1⟩ := D3.out.c k hlt
      have kf := D3.out.f
      have kl := D3.out.lt
      go_simp
      have HB2 := ((Below.refl (w.heap.size + 1) w1).setCell (p := ⟨w.heap.size + 1, k * 2, none⟩) (Nat.le_refl _) (.int .i64 (xv k))).setCell (p := ⟨w.heap.size + 1, k * 2 + 1, none⟩) (Nat.le_refl _) (.int .i64 (rv k))
      refine hK.out _ _ (S0.out.keep HB2 hbs) ?_
      have D4 := Lib.hid (((D3.out.setX hlt (xv k)).setY hlt (rv k)).congr (fun i hi => ⟨firstK_succ xv k i, firstK_succ rv k i⟩))
      have Q4 := Lib.hid (Q3.out.stepB HB2 (by omega) (by omega))
      clear hK K hHeld k0 k1 kf kl HB2 S0 D3 Q3
      intro hHeld
      refine wpAnyH_done (by kernel_rfl) ?_ _
      clear hHeld
      go_wp2
      go_roundw
      case rel => exact ⟨k + 1, by omega, by go_num, Q4.out, D4.out⟩
      case measure => simp [intOf]; omega
    · have e : k = N := by omega
      subst e
      go_wp2
      go_ret
      exact ⟨_, _, rfl, (D2.out.congr (fun i hi => ⟨if_pos hi, if_pos hi⟩)).dots (by unfold maxLen; omega) (fun i hi => ⟨KX.out.wf i (by have := HN.out; show i < xn; omega), KR.out.wf i (by have := HN.out; show i < rn; omega)⟩), Q2.out.l, fun q e => by cases e; show w.heap.size ≤ w.heap.size + 1; omega⟩
theorem pRow_any (p : Pn) (i : Int) (B : Nat) (w : World) (hB : B ≤ w.heap.size) (F : fewP p) (K : Pan B w p) (hi : In64 i) :
    Calls Try.prog 13 #[.agg #[.slice p.x.a p.x.n p.x.c, .slice p.y.a p.y.n p.y.c, .slice p.a p.n p.c], .int .i64 i] w fun e w' => ∃ a c, e = .returned (.slice a (rowM p i) c) ∧ Dots w' a (rowM p i) c p.x.v (p.r i.toNat).v ∧ Below w.heap.size w w' :=
  (pRow_new p i B w hB F K hi).mono fun e w' ⟨a, c, h1, h2, h3, _⟩ => ⟨a, c, h1, h2, h3⟩
set_option maxRecDepth 100000 in
set_option maxHeartbeats 8000000 in
theorem pPlaces_any (s : Sl) (B : Nat) (w : World) (hB : B ≤ w.heap.size) (hmax : s.n ≤ 100) (K : Nums B w s) :
    Calls Try.prog 41 #[.slice s.a s.n s.c] w fun e w' => e = .returned (.slice (some ⟨w.heap.size, 0, none⟩) s.n s.n) ∧ Dots w' (some ⟨w.heap.size, 0, none⟩) s.n s.n s.v (fun _ => 0) ∧ Below w.heap.size w w' := by
  have HK := Lib.hid K
  obtain ⟨a, n, c, v⟩ := s
  dsimp only at *
  obtain ⟨i0, hi, hz0, hz1, hz2⟩ := info_parts dotInfo
  have U := Try.underlying33
  clear K
  go_enter Try.func41, Try.ntmps41
  go_wp2_with (at_make; refine wpList_make_full _ rfl _ _ 33 rfl w.heap.size 50 i0 (.agg #[.int .i64 0, .int .i64 0]) 2 U hi hz0 hz1 .i64 .i64 _ _ n rfl rfl rfl rfl (by rw [hz2]; omega) (by unfold maxLen; omega) (Nat.le_refl _) ?_; intro w0 hown0 hgrow0)
  refine wp_gen (S := fun W => Below w.heap.size w W ∧ MkD w.heap.size W w.heap.size n (firstK v 0) (fun _ => 0)) ⟨⟨hgrow0.os, hgrow0.tape, hgrow0.output, hgrow0.size, fun k hk => hgrow0.block k hk (by simp)⟩, (MkD.new hown0 (made_cells n)).congr (fun i hi => ⟨by unfold firstK; simp, by unfold firstK; simp⟩)⟩ (fun W1 hS => ?_)
  have B1 := Lib.hid hS.1
  have D1 := Lib.hid hS.2
  clear hS hown0 hgrow0
  go_loopw [11] (fun i wr => ∃ k : Nat, k ≤ n ∧ i = .int .i64 k ∧ Below w.heap.size w wr ∧ MkD w.heap.size wr w.heap.size n (firstK v k) (fun _ => 0)) (fun i _ => n - (intOf i).toNat)
  case atStart => exact ⟨0, by omega, rfl, B1.out, D1.out⟩
  case round =>
    obtain ⟨k, hk, rfl, hB1, hD⟩ := hrel
    have B2 := Lib.hid hB1
    have D2 := Lib.hid hD
    clear hB1 hD B1 D1
    by_cases hlt : k < n
    · obtain ⟨bx, ox, hxa, hbx, hcx⟩ := HK.out.at' (by show 0 < n; omega)
      dsimp only at hxa hcx
      subst hxa
      have c5 : wr.cell? ⟨bx, ox + k, none⟩ = some (.int .i64 (v k)) := (B2.out.cell (p := ⟨bx, _, none⟩) (by show bx < w.heap.size; omega)).trans (hcx k (by omega))
      obtain ⟨k0, k1⟩ := D2.out.c k hlt
      have kf := D2.out.f
      have kl := D2.out.lt
      clear hcx
      go_wp2
      go_roundw
      case rel => exact ⟨k + 1, by omega, by go_num, B2.out.setCell (p := ⟨w.heap.size, k * 2, none⟩) (Nat.le_refl _) _, (D2.out.setX hlt (v k)).congr (fun i hi => ⟨firstK_succ v k i, rfl⟩)⟩
      case measure => simp [intOf]; omega
    · have e : k = n := by omega
      subst e
      go_wp2
      go_ret
      exact ⟨rfl, (D2.out.congr (fun i hi => ⟨if_pos hi, rfl⟩)).dots (by unfold maxLen; omega) (fun i hi => ⟨HK.out.wf i hi, by decide⟩), B2.out⟩
end Go.Proofs.Ytbggakbjppnchaa
