/- The contract of the document's At of curves. -/
import Derived.Test.YtjdhjabbojceeaaSb
import Derived.Test.YtjdhjabbojceeaaBk
namespace Go.Proofs.Ytjdhjabbojceeaa
open Go.RowKit
set_option linter.unusedVariables false
set_option linter.unusedSimpArgs false

theorem tmod_k {i : Int} {n : Nat} (h : 0 < n) : (Int.tmod (Int.tmod i n + n) n) = i % (n : Int) ∧ -(n : Int) ≤ Int.tmod i n ∧ Int.tmod i n < n := by
  have e0 := Int.emod_nonneg i (show (n : Int) ≠ 0 by omega)
  have e1 := Int.emod_lt_of_pos i (show (0 : Int) < n by omega)
  have hr : Int.tmod i n = i % n ∨ Int.tmod i n = i % n - n := by
    rw [Int.tmod_eq_emod]
    split
    · left; omega
    · right; rfl
  generalize hE : i % (n : Int) = e at *
  rcases hr with r | r
  · rw [r, Int.tmod_eq_emod_of_nonneg (by omega)]
    refine ⟨?_, by omega, by omega⟩
    rw [Int.add_emod_right]
    exact Int.emod_eq_of_lt e0 e1
  · rw [r, show e - (n : Int) + n = e by omega, Int.tmod_eq_emod_of_nonneg e0]
    refine ⟨Int.emod_eq_of_lt e0 e1, ?_, ?_⟩
    · clear hE; omega
    · clear hE; omega
theorem tmod_nat (m n : Nat) : Int.tmod (m : Int) (n : Int) = ((m % n : Nat) : Int) := by
  rw [Int.tmod_eq_emod_of_nonneg (by omega)]; rfl
theorem kOf_cast {n : Nat} (h : 0 < n) (i : Int) : i % (n : Int) = ((kOf n i : Nat) : Int) := by
  unfold kOf
  have := Int.emod_nonneg i (show (n : Int) ≠ 0 by omega)
  exact (Int.toNat_of_nonneg this).symm
theorem back_tmod {k n : Nat} (h : 0 < n) : Int.tmod ((k : Int) + (n : Int) - 1) (n : Int) = (((k + n - 1) % n : Nat) : Int) := by
  rw [← tmod_nat, show ((k + n - 1 : Nat) : Int) = (k : Int) + (n : Int) - 1 by omega]
theorem on_tmod {k n : Nat} (d : Nat) : Int.tmod ((k : Int) + (d : Int)) (n : Int) = (((k + d) % n : Nat) : Int) := by
  rw [← tmod_nat]; rfl
theorem wr_sum {r : Int} {n : Nat} (h1 : -(n : Int) ≤ r) (h2 : r < n) (h : n ≤ 64) : IntKind.i64.wrap (r + (n : Int)) = r + n ∧ wrap64 (r + (n : Int)) = r + n := wrap_in (by unfold In64; omega)
theorem wr_k {k n : Nat} (h1 : k < n) (h : n ≤ 64) : (IntKind.i64.wrap ((k : Int) + (n : Int)) = k + n ∧ wrap64 ((k : Int) + (n : Int)) = k + n) ∧ (IntKind.i64.wrap ((k : Int) + (n : Int) - 1) = k + n - 1 ∧ wrap64 ((k : Int) + (n : Int) - 1) = k + n - 1) ∧
    (IntKind.i64.wrap ((k : Int) + 1) = k + 1 ∧ wrap64 ((k : Int) + 1) = k + 1) ∧ (IntKind.i64.wrap ((k : Int) + 2) = k + 2 ∧ wrap64 ((k : Int) + 2) = k + 2) :=
  ⟨wrap_in (by unfold In64; omega), wrap_in (by unfold In64; omega), wrap_in (by unfold In64; omega), wrap_in (by unfold In64; omega)⟩
/-- what is reckoned of a piece's number -/
structure AtN (i : Int) (n kk k0 k2 k3 : Nat) (r : Int) : Prop where
  hr : Int.tmod i (n : Int) = r
  t1 : Int.tmod (r + (n : Int)) (n : Int) = (kk : Int)
  e0 : Int.tmod ((kk : Int) + (n : Int) - 1) (n : Int) = (k0 : Int)
  e2 : Int.tmod ((kk : Int) + 1) (n : Int) = (k2 : Int)
  e3 : Int.tmod ((kk : Int) + 2) (n : Int) = (k3 : Int)
  b : k0 < n ∧ kk < n ∧ k2 < n ∧ k3 < n
  ws : IntKind.i64.wrap (r + (n : Int)) = r + n ∧ wrap64 (r + (n : Int)) = r + n
  wk : (IntKind.i64.wrap ((kk : Int) + (n : Int)) = kk + n ∧ wrap64 ((kk : Int) + (n : Int)) = kk + n) ∧ (IntKind.i64.wrap ((kk : Int) + (n : Int) - 1) = kk + n - 1 ∧ wrap64 ((kk : Int) + (n : Int) - 1) = kk + n - 1) ∧
    (IntKind.i64.wrap ((kk : Int) + 1) = kk + 1 ∧ wrap64 ((kk : Int) + 1) = kk + 1) ∧ (IntKind.i64.wrap ((kk : Int) + 2) = kk + 2 ∧ wrap64 ((kk : Int) + 2) = kk + 2)
theorem atN {i : Int} {n : Nat} (h0 : 0 < n) (h : n ≤ 64) : AtN i n (kOf n i) ((kOf n i + n - 1) % n) ((kOf n i + 1) % n) ((kOf n i + 2) % n) (Int.tmod i n) :=
  ⟨rfl, (tmod_k h0).1.trans (kOf_cast h0 i), back_tmod h0, on_tmod 1, on_tmod 2, ⟨Nat.mod_lt _ h0, kOf_lt h0 i, Nat.mod_lt _ h0, Nat.mod_lt _ h0⟩, wr_sum (tmod_k h0).2.1 (tmod_k h0).2.2 h, wr_k (kOf_lt h0 i) h⟩
/-- blocks that are kept beside a flag -/
structure StF (w W : World) (b k : Nat) (o : Bool) (L : List (Nat × List Value)) : Prop where
  c : ∀ n l, (n, l) ∈ L → BW W n l
  f : Flag w W b k o
  e : ∀ n l, (n, l) ∈ L → b ≠ n
theorem StF.more {w W W' : World} {b k : Nat} {o : Bool} {L : List (Nat × List Value)} (Q : StF w W b k o L) (h : Below W.heap.size W W') : StF w W' b k o L :=
  ⟨fun n l e => (Q.c n l e).below h (Q.c n l e).lt, Q.f.more h, Q.e⟩
theorem StF.fx {w W W' : World} {b k : Nat} {o q : Bool} {L : List (Nat × List Value)} (Q : StF w W b k o L) (h : FxW W.heap.size W b k q W') : StF w W' b k q L :=
  ⟨fun n l e => (Q.c n l e).fx h (Q.e n l e), Q.f.fx h, Q.e⟩
theorem StF.alloc {w W : World} {b k : Nat} {o : Bool} {L : List (Nat × List Value)} (Q : StF w W b k o L) (ob : Obj) : StF w (W.alloc ob) b k o L := Q.more ((Below.refl _ _).alloc (Nat.le_refl _) ob)
theorem StF.drew {w W : World} {b k : Nat} {o : Bool} {L : List (Nat × List Value)} (Q : StF w W b k o L) : StF w W.drew b k o L := Q.more (Below.refl _ _).drew
theorem StF.nil {w W : World} {b k : Nat} {o : Bool} (f : Flag w W b k o) : StF w W b k o [] := ⟨fun n l e => by simp at e, f, fun n l e => by simp at e⟩
theorem StF.cons {w W : World} {b k : Nat} {o : Bool} {L : List (Nat × List Value)} {n : Nat} {l : List Value} (a : BW W n l) (e : b ≠ n) (Q : StF w W b k o L) : StF w W b k o ((n, l) :: L) :=
  ⟨fun m q h => by
    rcases List.mem_cons.mp h with h | h
    · cases h; exact a
    · exact Q.c m q h, Q.f, fun m q h => by
    rcases List.mem_cons.mp h with h | h
    · cases h; exact e
    · exact Q.e m q h⟩
/-- a new block beside those that are kept -/
theorem StF.push {w W : World} {b k : Nat} {o : Bool} {L : List (Nat × List Value)} (Q : StF w W b k o L) (l : List Value) (t : TypeId) : StF w (W.alloc (.cells l.toArray t)) b k o ((W.heap.size, l) :: L) :=
  StF.cons (BW.new W _ l t rfl) (by have := Q.f.m.lt; omega) (Q.alloc _)
theorem StF.far2 {w W : World} {b k : Nat} {o : Bool} {L : List (Nat × List Value)} (Q : StF w W b k o L) {r : Nat} (h : w.heap.size ≤ r) (hr : ∀ n l, (n, l) ∈ L → r ≠ n) (u0 u1 : Value) : StF w ((W.setCell ⟨r, 0, none⟩ u0).setCell ⟨r, 1, none⟩ u1) b k o L := by
  have B : Below w.heap.size W ((W.setCell ⟨r, 0, none⟩ u0).setCell ⟨r, 1, none⟩ u1) := ((Below.refl w.heap.size W).setCell (p := ⟨r, 0, none⟩) h u0).setCell (p := ⟨r, 1, none⟩) h u1
  exact ⟨fun n l e => ((Q.c n l e).far (hr n l e) 0 u0).far (hr n l e) 1 u1, ⟨Q.f.m.below B Q.f.lt, Q.f.f.then B (Nat.le_refl _), Q.f.lt⟩, Q.e⟩
/-- the four points of a piece, from block m on -/
def PtL (m : Nat) (x0 y0 x1 y1 x2 y2 x3 y3 : Int) : List (Nat × List Value) := [(m + 1 + 1 + 1, [.int .i64 x3, .int .i64 y3]), (m + 1 + 1, [.int .i64 x2, .int .i64 y2]), (m + 1, [.int .i64 x1, .int .i64 y1]), (m, [.int .i64 x0, .int .i64 y0])]
theorem pt_sv {w W : World} {b k m : Nat} {o : Bool} {x0 y0 x1 y1 x2 y2 x3 y3 : Int} (Q : StF w W b k o (PtL m x0 y0 x1 y1 x2 y2 x3 y3)) : (W.cell? ⟨m, 0, none⟩ = some (.int .i64 x0) ∧ W.cell? ⟨m, 1, none⟩ = some (.int .i64 y0)) ∧ (W.cell? ⟨m + 1, 0, none⟩ = some (.int .i64 x1) ∧ W.cell? ⟨m + 1, 1, none⟩ = some (.int .i64 y1)) ∧ (W.cell? ⟨m + 1 + 1, 0, none⟩ = some (.int .i64 x2) ∧ W.cell? ⟨m + 1 + 1, 1, none⟩ = some (.int .i64 y2)) ∧ (W.cell? ⟨m + 1 + 1 + 1, 0, none⟩ = some (.int .i64 x3) ∧ W.cell? ⟨m + 1 + 1 + 1, 1, none⟩ = some (.int .i64 y3)) :=
  ⟨(Q.c _ _ (by unfold PtL; simp)).h2'', (Q.c _ _ (by unfold PtL; simp)).h2'', (Q.c _ _ (by unfold PtL; simp)).h2'', (Q.c _ _ (by unfold PtL; simp)).h2''⟩
set_option maxRecDepth 100000 in
set_option maxHeartbeats 8000000 in
theorem rAt_any (a : Option Addr) (n c : Nat) (X Y : Nat → Int) (i t : Int) (b k : Nat) (o : Bool) (w : World) (hmax : n ≤ 1000) (hi : In64 i) (ht : In64 t) (D : Dots w a n c X Y) (m : MAt w b k o) :
    Calls Try.prog 12 #[.pointer (some ⟨b, k, none⟩), .slice a n c, .int .i64 i, .int .i64 t] w fun e w' => e = .returned (.agg #[.int .i64 (placeX n X Y i t), .int .i64 (placeY n X Y i t)]) ∧ FxW w.heap.size w b k (o || placeO n X Y i t) w' := by
  have hlt := m.lt
  have V := Lib.hid (fun (W : World) (D : Dots W a n c X Y) => rSRight_any a n c X Y W hmax D)
  by_cases hl : lineR n X Y = 0
  rotate_left
  · have E := Lib.hid (show placeX n X Y i t = 0 ∧ placeY n X Y i t = 0 ∧ (o || placeO n X Y i t) = o by unfold placeX placeY placeO; rw [if_neg hl, if_neg hl, if_neg hl, Bool.or_false]; exact ⟨rfl, rfl, rfl⟩)
    rw [E.out.1, E.out.2.1, E.out.2.2]
    generalize lineR n X Y = q at *
    have F0 := Lib.hid (Flag.start m ((Below.refl w.heap.size w).alloc (Nat.le_refl _) (.cells #[.int .i64 0, .int .i64 0] 32)))
    have D0 := Lib.hid (D.below ((Below.refl w.heap.size w).alloc (Nat.le_refl _) (.cells #[.int .i64 0, .int .i64 0] 32)) (Nat.le_refl _))
    have B0 := Lib.hid (BW.new w w.heap.size [.int .i64 0, .int .i64 0] 32 rfl)
    clear D m
    go_enter Try.func12, Try.ntmps12
    go_wp2_with fail
    refine (V.out _ D0.out).mono ?_
    rintro e w1 ⟨rfl, rfl⟩
    obtain ⟨r0, r1⟩ := B0.out.h2''
    have rf := B0.out.f
    go_wp2
    exact bodyPost_ret (v := .agg #[.int .i64 0, .int .i64 0]) (by simp [results, Try.results12, go_sem, r0, r1]) rfl ⟨rfl, F0.out.f⟩
  obtain ⟨l0, l1, l2⟩ := lineR_ok hl
  rw [hl] at V
  have hn0 : 0 < n := Nat.lt_of_lt_of_le (by omega) l0
  have AN := Lib.hid (atN (i := i) hn0 l1)
  have EX : placeX n X Y i t = oneF (X ((kOf n i + n - 1) % n)) (X (kOf n i)) (X ((kOf n i + 1) % n)) (X ((kOf n i + 2) % n)) t := by unfold placeX atSp; rw [if_pos hl]
  have EY : placeY n X Y i t = oneF (Y ((kOf n i + n - 1) % n)) (Y (kOf n i)) (Y ((kOf n i + 1) % n)) (Y ((kOf n i + 2) % n)) t := by unfold placeY atSp; rw [if_pos hl]
  have EO : placeO n X Y i t = (oneO (X ((kOf n i + n - 1) % n)) (X (kOf n i)) (X ((kOf n i + 1) % n)) (X ((kOf n i + 2) % n)) t || oneO (Y ((kOf n i + n - 1) % n)) (Y (kOf n i)) (Y ((kOf n i + 1) % n)) (Y ((kOf n i + 2) % n)) t) := by unfold placeO atO; rw [if_pos hl]
  rw [EX, EY, EO]
  generalize (kOf n i + n - 1) % n = k0 at *
  generalize (kOf n i + 1) % n = k2 at *
  generalize (kOf n i + 2) % n = k3 at *
  generalize kOf n i = kk at *
  clear EX EY EO hl
  obtain ⟨ba, off, ha, hb, hcell⟩ := D.at' hn0
  subst ha
  have hb1 : ba < w.heap.size + 1 := by omega
  have hb2 : ba < w.heap.size + 1 + 1 := by omega
  have hb3 : ba < w.heap.size + 1 + 1 + 1 := by omega
  have hb4 : ba < w.heap.size + 1 + 1 + 1 + 1 := by omega
  have nb : b ≠ w.heap.size + 1 + 1 + 1 + 1 ∧ b ≠ w.heap.size + 1 + 1 + 1 ∧ b ≠ w.heap.size + 1 + 1 ∧ b ≠ w.heap.size + 1 := by omega
  have rb := (tmod_k (i := i) hn0).2
  generalize hr : Int.tmod i (n : Int) = r at *
  obtain ⟨-, t1, e0, e2, e3, ⟨h0, hk, h2, h3⟩, -, -⟩ := AN.out
  obtain ⟨rb1, rb2⟩ := rb
  have D0 := Lib.hid (D.below ((Below.refl w.heap.size w).alloc (Nat.le_refl _) (.cells #[.int .i64 0, .int .i64 0] 32)) (Nat.le_refl _))
  obtain ⟨c0, d0⟩ := hcell k0 h0
  obtain ⟨c1, d1⟩ := hcell kk hk
  obtain ⟨c2, d2⟩ := hcell k2 h2
  obtain ⟨c3, d3⟩ := hcell k3 h3
  have R1 := Lib.hid (fun (W : World) (q : Bool) (M : MAt W b k q) => rOne_any (X k0) (X kk) (X k2) (X k3) t b k q W (l2 _ h0).1 (l2 _ hk).1 (l2 _ h2).1 (l2 _ h3).1 ht M)
  have R2 := Lib.hid (fun (W : World) (q : Bool) (M : MAt W b k q) => rOne_any (Y k0) (Y kk) (Y k2) (Y k3) t b k q W (l2 _ h0).2 (l2 _ hk).2 (l2 _ h2).2 (l2 _ h3).2 ht M)
  have z0 : (k0 : Int) < (n : Int) := Int.ofNat_lt.mpr h0
  have z1 : (kk : Int) < (n : Int) := Int.ofNat_lt.mpr hk
  have z2 : (k2 : Int) < (n : Int) := Int.ofNat_lt.mpr h2
  have z3 : (k3 : Int) < (n : Int) := Int.ofNat_lt.mpr h3
  have zn : ¬ (n : Int) = 0 := fun e => absurd (Int.ofNat_eq_zero.mp e) (Nat.ne_of_gt hn0)
  have HM := Lib.hid m
  clear hcell l2 D m hi ht h0 h2 h3 hk AN
  go_enter Try.func12, Try.ntmps12
  go_wp2_with fail
  refine (V.out _ D0.out).mono ?_
  rintro e w1' ⟨rfl, rfl⟩
  go_wp2_with fail
  refine wp_gen (S := fun W => StF w W b k o (PtL (w.heap.size + 1) (X k0) (Y k0) (X kk) (Y kk) (X k2) (Y k2) (X k3) (Y k3)) ∧ BW W w.heap.size [.int .i64 0, .int .i64 0]) ⟨StF.cons (BW.new _ _ [_, _] _ (by simp)) nb.1 (StF.cons ((BW.new _ _ [_, _] _ (by simp)).alloc _) nb.2.1 (StF.cons (((BW.new _ _ [_, _] _ (by simp)).alloc _).alloc _) nb.2.2.1 (StF.cons ((((BW.new _ _ [_, _] _ (by simp)).alloc _).alloc _).alloc _) nb.2.2.2 (StF.nil (Flag.start HM.out (by repeat (first | exact Below.refl _ _ | assumption | refine Below.setCell ?_ (by first | omega | (simp; done) | (simp; omega)) _ | refine Below.alloc ?_ (by first | omega | (simp; done) | (simp; omega)) _ | refine below_drewN ?_ _ | refine Below.drew ?_ | refine Below.trans ?_ (Below.mono (by assumption) (by first | omega | (simp; done) | (simp; omega)))))))))), ((((BW.new w w.heap.size [_, _] _ rfl).alloc _).alloc _).alloc _).alloc _⟩ (fun W1 hS => ?_)
  have Q0 := Lib.hid hS.1.drew
  have V0 := Lib.hid hS.2.drew
  clear hS HM D0 V hr rb1 rb2 t1 e0 e2 e3 z0 z1 z2 z3 zn nb c0 d0 c1 d1 c2 d2 c3 d3
  refine wp_region_held_drew (S := fun W => (W.cell? ⟨w.heap.size + 1, 0, none⟩ = some (.int .i64 (X k0)) ∧ W.cell? ⟨w.heap.size + 1, 1, none⟩ = some (.int .i64 (Y k0))) ∧ (W.cell? ⟨w.heap.size + 1 + 1, 0, none⟩ = some (.int .i64 (X kk)) ∧ W.cell? ⟨w.heap.size + 1 + 1, 1, none⟩ = some (.int .i64 (Y kk))) ∧ (W.cell? ⟨w.heap.size + 1 + 1 + 1, 0, none⟩ = some (.int .i64 (X k2)) ∧ W.cell? ⟨w.heap.size + 1 + 1 + 1, 1, none⟩ = some (.int .i64 (Y k2))) ∧ (W.cell? ⟨w.heap.size + 1 + 1 + 1 + 1, 0, none⟩ = some (.int .i64 (X k3)) ∧ W.cell? ⟨w.heap.size + 1 + 1 + 1 + 1, 1, none⟩ = some (.int .i64 (Y k3)))) (by kernel_rfl) (pt_sv Q0.out) (fun hHeld => ?_)
  generalize W1.drew = w0 at *
  refine wpAnyH_takeD 0 55 (v := ?_) (by kernel_rfl) (by kernel_rfl) (by kernel_rfl) (by kernel_rfl) (by rfl) (fun _ _ _ h => h) ?_ hHeld ?_
  rotate_left 1
  (intro o ho W hSw; simp only [List.getElem?_toArray, List.getElem?_cons_succ, List.getElem?_cons_zero, Option.some.injEq] at ho; subst ho; (try dsimp only at hSw); go_simp; try with_reducible rfl)
  (try simp only [Act.put, List.setIfInBounds_toArray, List.set_cons_zero, List.set_cons_succ])
  refine wpAnyH_takeD 1 56 (v := ?_) (by kernel_rfl) (by kernel_rfl) (by kernel_rfl) (by kernel_rfl) (by rfl) (fun _ _ _ h => h) ?_ hHeld ?_
  rotate_left 1
  (intro o ho W hSw; simp only [List.getElem?_toArray, List.getElem?_cons_succ, List.getElem?_cons_zero, Option.some.injEq] at ho; subst ho; (try dsimp only at hSw); go_simp; try with_reducible rfl)
  (try simp only [Act.put, List.setIfInBounds_toArray, List.set_cons_zero, List.set_cons_succ])
  refine wpAnyH_takeD 2 57 (v := ?_) (by kernel_rfl) (by kernel_rfl) (by kernel_rfl) (by kernel_rfl) (by rfl) (fun _ _ _ h => h) ?_ hHeld ?_
  rotate_left 1
  (intro o ho W hSw; simp only [List.getElem?_toArray, List.getElem?_cons_succ, List.getElem?_cons_zero, Option.some.injEq] at ho; subst ho; (try dsimp only at hSw); go_simp; try with_reducible rfl)
  (try simp only [Act.put, List.setIfInBounds_toArray, List.set_cons_zero, List.set_cons_succ])
  refine wpAnyH_takeD 3 58 (v := ?_) (by kernel_rfl) (by kernel_rfl) (by kernel_rfl) (by kernel_rfl) (by rfl) (fun _ _ _ h => h) ?_ hHeld ?_
  rotate_left 1
  (intro o ho W hSw; simp only [List.getElem?_toArray, List.getElem?_cons_succ, List.getElem?_cons_zero, Option.some.injEq] at ho; subst ho; (try dsimp only at hSw); go_simp; try with_reducible rfl)
  (try simp only [Act.put, List.setIfInBounds_toArray, List.set_cons_zero, List.set_cons_succ])
  refine wpAnyH_takeD 4 59 (v := ?_) (by kernel_rfl) (by kernel_rfl) (by kernel_rfl) (by kernel_rfl) (by rfl) (fun _ _ _ h => h) ?_ hHeld ?_
  rotate_left 1
  (intro o ho W hSw; simp only [List.getElem?_toArray, List.getElem?_cons_succ, List.getElem?_cons_zero, Option.some.injEq] at ho; subst ho; (try dsimp only at hSw); go_simp; try with_reducible rfl)
  (try simp only [Act.put, List.setIfInBounds_toArray, List.set_cons_zero, List.set_cons_succ])
  refine wpAnyH_takeD 5 60 (v := ?_) (by kernel_rfl) (by kernel_rfl) (by kernel_rfl) (by kernel_rfl) (by rfl) (fun _ _ _ h => h) ?_ hHeld ?_
  rotate_left 1
  (intro o ho W hSw; simp only [List.getElem?_toArray, List.getElem?_cons_succ, List.getElem?_cons_zero, Option.some.injEq] at ho; subst ho; (try dsimp only at hSw); go_simp; try with_reducible rfl)
  (try simp only [Act.put, List.setIfInBounds_toArray, List.set_cons_zero, List.set_cons_succ])
  refine wpAnyH_takeD 6 61 (v := ?_) (by kernel_rfl) (by kernel_rfl) (by kernel_rfl) (by kernel_rfl) (by rfl) (fun _ _ _ h => h) ?_ hHeld ?_
  rotate_left 1
  (intro o ho W hSw; simp only [List.getElem?_toArray, List.getElem?_cons_succ, List.getElem?_cons_zero, Option.some.injEq] at ho; subst ho; (try dsimp only at hSw); go_simp; try with_reducible rfl)
  (try simp only [Act.put, List.setIfInBounds_toArray, List.set_cons_zero, List.set_cons_succ])
  refine wpAnyH_takeD 7 62 (v := ?_) (by kernel_rfl) (by kernel_rfl) (by kernel_rfl) (by kernel_rfl) (by rfl) (fun _ _ _ h => h) ?_ hHeld ?_
  rotate_left 1
  (intro o ho W hSw; simp only [List.getElem?_toArray, List.getElem?_cons_succ, List.getElem?_cons_zero, Option.some.injEq] at ho; subst ho; (try dsimp only at hSw); go_simp; try with_reducible rfl)
  (try simp only [Act.put, List.setIfInBounds_toArray, List.set_cons_zero, List.set_cons_succ])
  refine wpAnyH_takeD 8 63 (v := ?_) (by kernel_rfl) (by kernel_rfl) (by kernel_rfl) (by kernel_rfl) (by rfl) (fun _ _ _ h => h) ?_ hHeld ?_
  rotate_left 1
  (intro o ho W hSw; simp only [List.getElem?_toArray, List.getElem?_cons_succ, List.getElem?_cons_zero, Option.some.injEq] at ho; subst ho; (try dsimp only at hSw); go_simp; try with_reducible rfl)
  (try simp only [Act.put, List.setIfInBounds_toArray, List.set_cons_zero, List.set_cons_succ])
  refine wpAnyH_takeD 9 64 (v := ?_) (by kernel_rfl) (by kernel_rfl) (by kernel_rfl) (by kernel_rfl) (by rfl) (fun _ _ _ h => h) ?_ hHeld ?_
  rotate_left 1
  (intro o ho W hSw; simp only [List.getElem?_toArray, List.getElem?_cons_succ, List.getElem?_cons_zero, Option.some.injEq] at ho; subst ho; (try dsimp only at hSw); go_simp; try with_reducible rfl)
  (try simp only [Act.put, List.setIfInBounds_toArray, List.set_cons_zero, List.set_cons_succ])
  refine wpAnyH_takeD 11 66 (v := ?_) (by kernel_rfl) (by kernel_rfl) (by kernel_rfl) (by kernel_rfl) (by rfl) (fun _ _ _ h => h) ?_ hHeld ?_
  rotate_left 1
  (intro o ho W hSw; simp only [List.getElem?_toArray, List.getElem?_cons_succ, List.getElem?_cons_zero, Option.some.injEq] at ho; subst ho; (try dsimp only at hSw); go_simp; try with_reducible rfl)
  (try simp only [Act.put, List.setIfInBounds_toArray, List.set_cons_zero, List.set_cons_succ])
  refine wpAnyH_takeD 12 67 (v := ?_) (by kernel_rfl) (by kernel_rfl) (by kernel_rfl) (by kernel_rfl) (by rfl) (fun _ _ _ h => h) ?_ hHeld ?_
  rotate_left 1
  (intro o ho W hSw; simp only [List.getElem?_toArray, List.getElem?_cons_succ, List.getElem?_cons_zero, Option.some.injEq] at ho; subst ho; (try dsimp only at hSw); go_simp; try with_reducible rfl)
  (try simp only [Act.put, List.setIfInBounds_toArray, List.set_cons_zero, List.set_cons_succ])
  refine wpAnyH_takeD 13 68 (v := ?_) (by kernel_rfl) (by kernel_rfl) (by kernel_rfl) (by kernel_rfl) (by rfl) (fun _ _ _ h => h) ?_ hHeld ?_
  rotate_left 1
  (intro o ho W hSw; simp only [List.getElem?_toArray, List.getElem?_cons_succ, List.getElem?_cons_zero, Option.some.injEq] at ho; subst ho; (try dsimp only at hSw); go_simp; try with_reducible rfl)
  (try simp only [Act.put, List.setIfInBounds_toArray, List.set_cons_zero, List.set_cons_succ])
  refine wpAnyH_takeD 14 69 (v := ?_) (by kernel_rfl) (by kernel_rfl) (by kernel_rfl) (by kernel_rfl) (by rfl) (fun _ _ _ h => h) ?_ hHeld ?_
  rotate_left 1
  (intro o ho W hSw; simp only [List.getElem?_toArray, List.getElem?_cons_succ, List.getElem?_cons_zero, Option.some.injEq] at ho; subst ho; (try dsimp only at hSw); go_simp; try with_reducible rfl)
  (try simp only [Act.put, List.setIfInBounds_toArray, List.set_cons_zero, List.set_cons_succ])
  refine wpAnyH_takeD 15 70 (v := ?_) (by kernel_rfl) (by kernel_rfl) (by kernel_rfl) (by kernel_rfl) (by rfl) (fun _ _ _ h => h) ?_ hHeld ?_
  rotate_left 1
  (intro o ho W hSw; simp only [List.getElem?_toArray, List.getElem?_cons_succ, List.getElem?_cons_zero, Option.some.injEq] at ho; subst ho; (try dsimp only at hSw); go_simp; try with_reducible rfl)
  (try simp only [Act.put, List.setIfInBounds_toArray, List.set_cons_zero, List.set_cons_succ])
  refine wpAnyH_takeD 16 71 (v := ?_) (by kernel_rfl) (by kernel_rfl) (by kernel_rfl) (by kernel_rfl) (by rfl) (fun _ _ _ h => h) ?_ hHeld ?_
  rotate_left 1
  (intro o ho W hSw; simp only [List.getElem?_toArray, List.getElem?_cons_succ, List.getElem?_cons_zero, Option.some.injEq] at ho; subst ho; (try dsimp only at hSw); go_simp; try with_reducible rfl)
  (try simp only [Act.put, List.setIfInBounds_toArray, List.set_cons_zero, List.set_cons_succ])
  refine wpAnyH_takeD 17 72 (v := ?_) (by kernel_rfl) (by kernel_rfl) (by kernel_rfl) (by kernel_rfl) (by rfl) (fun _ _ _ h => h) ?_ hHeld ?_
  rotate_left 1
  (intro o ho W hSw; simp only [List.getElem?_toArray, List.getElem?_cons_succ, List.getElem?_cons_zero, Option.some.injEq] at ho; subst ho; (try dsimp only at hSw); go_simp; try with_reducible rfl)
  (try simp only [Act.put, List.setIfInBounds_toArray, List.set_cons_zero, List.set_cons_succ])
  refine wpAnyH_takeD 18 73 (v := ?_) (by kernel_rfl) (by kernel_rfl) (by kernel_rfl) (by kernel_rfl) (by rfl) (fun _ _ _ h => h) ?_ hHeld ?_
  rotate_left 1
  (intro o ho W hSw; simp only [List.getElem?_toArray, List.getElem?_cons_succ, List.getElem?_cons_zero, Option.some.injEq] at ho; subst ho; (try dsimp only at hSw); go_simp; try with_reducible rfl)
  (try simp only [Act.put, List.setIfInBounds_toArray, List.set_cons_zero, List.set_cons_succ])
  refine wpAnyH_takeD 19 74 (v := ?_) (by kernel_rfl) (by kernel_rfl) (by kernel_rfl) (by kernel_rfl) (by rfl) (fun _ _ _ h => h) ?_ hHeld ?_
  rotate_left 1
  (intro o ho W hSw; simp only [List.getElem?_toArray, List.getElem?_cons_succ, List.getElem?_cons_zero, Option.some.injEq] at ho; subst ho; (try dsimp only at hSw); go_simp; try with_reducible rfl)
  (try simp only [Act.put, List.setIfInBounds_toArray, List.set_cons_zero, List.set_cons_succ])
  refine wpAnyH_takeD 20 75 (v := ?_) (by kernel_rfl) (by kernel_rfl) (by kernel_rfl) (by kernel_rfl) (by rfl) (fun _ _ _ h => h) ?_ hHeld ?_
  rotate_left 1
  (intro o ho W hSw; simp only [List.getElem?_toArray, List.getElem?_cons_succ, List.getElem?_cons_zero, Option.some.injEq] at ho; subst ho; (try dsimp only at hSw); go_simp; try with_reducible rfl)
  (try simp only [Act.put, List.setIfInBounds_toArray, List.set_cons_zero, List.set_cons_succ])
  refine wpAnyH_onlyD 10 (by kernel_rfl) (fun o ho K hK => ?_) (by kernel_rfl)
  simp only [List.getElem?_toArray, List.getElem?_cons_succ, List.getElem?_cons_zero, Option.some.injEq] at ho
  subst ho
  go_simp
  refine (R1.out _ _ Q0.out.f.m).mono ?_
  rintro e w1 ⟨rfl, h⟩
  have Q1 := Lib.hid (Q0.out.fx h)
  have V1 := Lib.hid (V0.out.fx h (by omega))
  go_wp2_with fail
  refine hK.out _ _ (pt_sv Q1.out) ?_
  clear hK K hHeld
  intro hHeld
  clear h Q0 V0
  refine wpAnyH_onlyD 21 (by kernel_rfl) (fun o ho K hK => ?_) (by kernel_rfl)
  simp only [List.getElem?_toArray, List.getElem?_cons_succ, List.getElem?_cons_zero, Option.some.injEq] at ho
  subst ho
  go_simp
  refine (R2.out _ _ Q1.out.f.m).mono ?_
  rintro e w2 ⟨rfl, h⟩
  have Q2 := Lib.hid (Q1.out.fx h)
  have V2 := Lib.hid (V1.out.fx h (by omega))
  go_wp2_with fail
  refine hK.out _ _ (pt_sv Q2.out) ?_
  clear hK K hHeld
  intro hHeld
  clear h Q1 V1
  refine wpAnyH_takeD 22 77 (v := ?_) (by kernel_rfl) (by kernel_rfl) (by kernel_rfl) (by kernel_rfl) (by rfl) (fun _ _ _ h => h) ?_ hHeld ?_
  rotate_left 1
  (intro o ho W hSw; simp only [List.getElem?_toArray, List.getElem?_cons_succ, List.getElem?_cons_zero, Option.some.injEq] at ho; subst ho; (try dsimp only at hSw); go_simp; try with_reducible rfl)
  (try simp only [Act.put, List.setIfInBounds_toArray, List.set_cons_zero, List.set_cons_succ])
  obtain ⟨r0, r1⟩ := V2.out.h2''
  have rf := V2.out.f
  have nr : ∀ n l, (n, l) ∈ PtL (w.heap.size + 1) (X k0) (Y k0) (X kk) (Y kk) (X k2) (Y k2) (X k3) (Y k3) → w.heap.size ≠ n := fun n l e => by unfold PtL at e; simp at e; rcases e with e | e | e | e <;> (have := e.1; omega)
  refine wpAnyH_onlyD 23 (by kernel_rfl) (fun o ho K hK => ?_) (by kernel_rfl)
  simp only [List.getElem?_toArray, List.getElem?_cons_succ, List.getElem?_cons_zero, Option.some.injEq] at ho
  subst ho
  go_simp
  refine hK.out _ _ (pt_sv (Q2.out.far2 (Nat.le_refl _) nr _ _)) ?_
  clear hK K hHeld
  intro hHeld
  refine wpAnyH_done (by kernel_rfl) ?_ _
  go_wp2
  exact bodyPost_ret (v := .agg #[.int .i64 (oneF (X k0) (X kk) (X k2) (X k3) t), .int .i64 (oneF (Y k0) (Y kk) (Y k2) (Y k3) t)]) (by simp [results, Try.results12, go_sem, r0, r1]) rfl ⟨rfl, by have := (Q2.out.far2 (Nat.le_refl _) nr (.int .i64 (oneF (X k0) (X kk) (X k2) (X k3) t)) (.int .i64 (oneF (Y k0) (Y kk) (Y k2) (Y k3) t))).f.f; rw [Bool.or_assoc] at this; exact this⟩
end Go.Proofs.Ytjdhjabbojceeaa
