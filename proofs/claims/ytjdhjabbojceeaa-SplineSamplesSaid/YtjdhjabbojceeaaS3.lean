/- The program's spline: a place; At. -/
import Derived.Test.YtjdhjabbojceeaaS2
namespace Go.Proofs.Ytjdhjabbojceeaa
open Go.RowKit
set_option linter.unusedVariables false
set_option linter.unusedSimpArgs false

/-- what is kept while a place is reckoned: the receiver's box, the moment's, the answer's -/
def PlL (n b k : Nat) (t : Int) : List (Nat × List Value) := [(n, [.pointer (some ⟨b, k, none⟩)]), (n + 1, [.int .i64 t]), (n + 1 + 1, [.int .i64 0, .int .i64 0])]
theorem plL_lt {n b k : Nat} {t : Int} : ∀ m l, (m, l) ∈ PlL n b k t → m < n + 1 + 1 + 1 := fun m l e => by
  unfold PlL at e; simp at e; rcases e with e | e | e <;> (have := e.1; omega)
/-- the frame while the four points are taken -/
def PlA (w : World) (b k ba off n c : Nat) (X Y : Nat → Int) (i t r : Int) (k0 kk k2 k3 : Nat) (x10 x11 x12 x13 : Value) : Act := ⟨#[.pointer (some ⟨b, k, none⟩), .slice (some ⟨ba, off, none⟩) n c, .int .i64 kk, .int .i64 t, .pointer (some ⟨w.heap.size, 0, none⟩), undef, undef, .pointer (some ⟨w.heap.size + 1, 0, none⟩), .pointer (some ⟨w.heap.size + 1 + 1, 0, none⟩), .int .i64 n, x10, x11, x12, x13, undef,
  .slice (some ⟨ba, off, none⟩) n c, .int .i64 n, .int .i64 i, .int .i64 n, .int .i64 r, .int .i64 n, .int .i64 (r + n), .int .i64 n, .int .i64 kk,
  .slice (some ⟨ba, off, none⟩) n c, .int .i64 kk, .int .i64 n, .int .i64 (kk + n), .int .i64 (kk + n - 1), .int .i64 n, .int .i64 k0, .pointer (some ⟨ba, off + k0 * 2, none⟩), .agg #[.int .i64 (X k0), .int .i64 (Y k0)],
  .slice (some ⟨ba, off, none⟩) n c, .int .i64 kk, .pointer (some ⟨ba, off + kk * 2, none⟩), .agg #[.int .i64 (X kk), .int .i64 (Y kk)],
  .slice (some ⟨ba, off, none⟩) n c, .int .i64 kk, .int .i64 (kk + 1), .int .i64 n, .int .i64 k2, .pointer (some ⟨ba, off + k2 * 2, none⟩), .agg #[.int .i64 (X k2), .int .i64 (Y k2)],
  .slice (some ⟨ba, off, none⟩) n c, .int .i64 kk, .int .i64 (kk + 2), .int .i64 n, .int .i64 k3, .pointer (some ⟨ba, off + k3 * 2, none⟩), .agg #[.int .i64 (X k3), .int .i64 (Y k3)],
  undef, undef, undef, undef, undef, undef, undef, undef, undef, undef, undef, undef, undef, undef, undef, undef, undef, undef, undef, undef, undef, undef], []⟩
/-- which of the four blocks have come up -/
def PlI (w : World) (b k : Nat) (o : Bool) (ba off n c : Nat) (X Y : Nat → Int) (i t r : Int) (k0 kk k2 k3 : Nat) (m : Nat) (listed : Array Bool) (a : Act) (W : World) : Prop :=
  ∃ (p0 p1 p2 p3 : Bool) (x10 x11 x12 x13 : Value), m = (!p0).toNat + (!p1).toNat + (!p2).toNat + (!p3).toNat ∧
    listed = #[true, true, true, true, true, true, true, true, true, true, true, true, true, true, true, true, true, true, true, true, true, true, true, true, true, true, true, p0, p1, p2, p3, false, false, false, false] ∧
    a = PlA w b k ba off n c X Y i t r k0 kk k2 k3 x10 x11 x12 x13 ∧ StF w W b k o (PlL w.heap.size b k t) ∧ Below w.heap.size w W ∧ A4 (w.heap.size + 1 + 1 + 1) W p0 p1 p2 p3 x10 x11 x12 x13
theorem plL_pb {w W : World} {n b k : Nat} {o : Bool} {t : Int} (Q : StF w W b k o (PlL n b k t)) : b ≠ n + 1 ∧ PB W n b k ∧ IB W (n + 1) t ∧ BW W (n + 1 + 1) [.int .i64 0, .int .i64 0] := by
  have m0 : (n, [Value.pointer (some ⟨b, k, none⟩)]) ∈ PlL n b k t := by unfold PlL; simp
  have m1 : (n + 1, [Value.int .i64 t]) ∈ PlL n b k t := by unfold PlL; simp
  have m2 : (n + 1 + 1, [Value.int .i64 0, Value.int .i64 0]) ∈ PlL n b k t := by unfold PlL; simp
  exact ⟨Q.e _ _ m1, ⟨(Q.c _ _ m0).c 0 _ rfl, (Q.c _ _ m0).lt, Q.e _ _ m0⟩, ⟨(Q.c _ _ m1).c 0 _ rfl, (Q.c _ _ m1).lt⟩, Q.c _ _ m2⟩
theorem T4.cells_far {w W : World} {b k : Nat} {o : Bool} {L : List (Nat × List Value)} {m0 m1 m2 m3 n : Nat} {x0 y0 x1 y1 x2 y2 x3 y3 : Int} (t : T4 w W b k o L (n + 1) m0 m1 m2 m3 [.int .i64 x0, .int .i64 y0] [.int .i64 x1, .int .i64 y1] [.int .i64 x2, .int .i64 y2] [.int .i64 x3, .int .i64 y3]) (u v : Value) :
    C4' m0 m1 m2 m3 x0 y0 x1 y1 x2 y2 x3 y3 ((W.setCell ⟨n, 0, none⟩ u).setCell ⟨n, 1, none⟩ v) :=
  ⟨(sp_far2 t.a0 (by have := t.g; omega) u v).h2'', (sp_far2 t.a1 (by have := t.g; omega) u v).h2'', (sp_far2 t.a2 (by have := t.g; omega) u v).h2'', (sp_far2 t.a3 (by have := t.g; omega) u v).h2''⟩
set_option maxRecDepth 100000 in
set_option maxHeartbeats 8000000 in
theorem spPlace_any (a : Option Addr) (n c : Nat) (X Y : Nat → Int) (i t : Int) (b k : Nat) (o : Bool) (w : World) (hl : lineR n X Y = 0) (hi : In64 i) (ht : In64 t) (D : Dots w a n c X Y) (m : MAt w b k o) :
    Calls Try.prog 27 #[.pointer (some ⟨b, k, none⟩), .slice a n c, .int .i64 i, .int .i64 t] w fun e w' => e = .returned (.agg #[.int .i64 (placeX n X Y i t), .int .i64 (placeY n X Y i t)]) ∧ FxW w.heap.size w b k (o || placeO n X Y i t) w' := by
  have hlt := m.lt
  obtain ⟨l0, l1, l2⟩ := lineR_ok hl
  have hn0 : 0 < n := Nat.lt_of_lt_of_le (by omega) l0
  have AN := Lib.hid (atN (i := i) hn0 l1)
  have EX : placeX n X Y i t = oneF (X ((kOf n i + n - 1) % n)) (X (kOf n i)) (X ((kOf n i + 1) % n)) (X ((kOf n i + 2) % n)) t := by unfold placeX atSp; rw [if_pos hl]
  have EY : placeY n X Y i t = oneF (Y ((kOf n i + n - 1) % n)) (Y (kOf n i)) (Y ((kOf n i + 1) % n)) (Y ((kOf n i + 2) % n)) t := by unfold placeY atSp; rw [if_pos hl]
  have EO : placeO n X Y i t = (oneO (X ((kOf n i + n - 1) % n)) (X (kOf n i)) (X ((kOf n i + 1) % n)) (X ((kOf n i + 2) % n)) t || oneO (Y ((kOf n i + n - 1) % n)) (Y (kOf n i)) (Y ((kOf n i + 1) % n)) (Y ((kOf n i + 2) % n)) t) := by unfold placeO atO; rw [if_pos hl]
  rw [EX, EY, EO]
  generalize (kOf n i + n - 1) % n = k0 at *
  generalize (kOf n i + 1) % n = k2 at *
  generalize (kOf n i + 2) % n = k3 at *
  generalize kOf n i = kk at *
  clear EX EY EO hl
  obtain ⟨ba, off, ha, hb, hcell⟩ := D.at' hn0
  subst ha
  have rb := (tmod_k (i := i) hn0).2
  generalize hr : Int.tmod i (n : Int) = r at *
  obtain ⟨-, t1, e0, e2, e3, ⟨h0, hk, h2, h3⟩, ws, wk⟩ := AN.out
  obtain ⟨rb1, rb2⟩ := rb
  obtain ⟨c0, d0⟩ := hcell k0 h0
  obtain ⟨c1, d1⟩ := hcell kk hk
  obtain ⟨c2, d2⟩ := hcell k2 h2
  obtain ⟨c3, d3⟩ := hcell k3 h3
  have R1 := Lib.hid (fun (W : World) (n1 n2 : Nat) (q : Bool) (hbi : b ≠ n2) (P : PB W n1 b k) (I : IB W n2 t) (M : MAt W b k q) => cPlace_any (X k0) (X kk) (X k2) (X k3) t n1 n2 b k q W (l2 _ h0).1 (l2 _ hk).1 (l2 _ h2).1 (l2 _ h3).1 ht hbi P I M)
  have R2 := Lib.hid (fun (W : World) (n1 n2 : Nat) (q : Bool) (hbi : b ≠ n2) (P : PB W n1 b k) (I : IB W n2 t) (M : MAt W b k q) => cPlace_any (Y k0) (Y kk) (Y k2) (Y k3) t n1 n2 b k q W (l2 _ h0).2 (l2 _ hk).2 (l2 _ h2).2 (l2 _ h3).2 ht hbi P I M)
  have SC := Lib.hid (fun (W : World) (h : Below w.heap.size w W) => show C4 ba (off + k0 * 2) (off + kk * 2) (off + k2 * 2) (off + k3 * 2) (X k0) (Y k0) (X kk) (Y kk) (X k2) (Y k2) (X k3) (Y k3) W from
    ⟨⟨(h.cell (p := ⟨ba, _, none⟩) hb).trans c0, (h.cell (p := ⟨ba, _, none⟩) hb).trans d0⟩, ⟨(h.cell (p := ⟨ba, _, none⟩) hb).trans c1, (h.cell (p := ⟨ba, _, none⟩) hb).trans d1⟩, ⟨(h.cell (p := ⟨ba, _, none⟩) hb).trans c2, (h.cell (p := ⟨ba, _, none⟩) hb).trans d2⟩, ⟨(h.cell (p := ⟨ba, _, none⟩) hb).trans c3, (h.cell (p := ⟨ba, _, none⟩) hb).trans d3⟩⟩)
  have z0 : (k0 : Int) < (n : Int) := Int.ofNat_lt.mpr h0
  have z1 : (kk : Int) < (n : Int) := Int.ofNat_lt.mpr hk
  have z2 : (k2 : Int) < (n : Int) := Int.ofNat_lt.mpr h2
  have z3 : (k3 : Int) < (n : Int) := Int.ofNat_lt.mpr h3
  have zn : ¬ (n : Int) = 0 := fun e => absurd (Int.ofNat_eq_zero.mp e) (Nat.ne_of_gt hn0)
  have HW := Lib.hid wk
  have HE := Lib.hid (And.intro e0 (And.intro e2 e3))
  have HM := Lib.hid m
  clear hcell l2 D m hi ht h0 h2 h3 hk AN e0 e2 e3 wk ws c0 c1 c2 c3 d0 d1 d2 d3
  go_enter Try.func27, Try.ntmps27
  go_wp2_with fail
  refine wp_gen (S := fun W => StF w W b k o (PlL w.heap.size b k t) ∧ Below w.heap.size w W) ⟨StF.cons (((BW.new w w.heap.size [_] _ rfl).alloc _).alloc _) (by omega) (StF.cons ((BW.new _ _ [_] _ (by simp)).alloc _) (by omega) (StF.cons (BW.new _ _ [_, _] _ (by simp)) (by omega) (StF.nil (Flag.start HM.out (by repeat (first | exact Below.refl _ _ | assumption | refine Below.setCell ?_ (by first | omega | (simp; done) | (simp; omega)) _ | refine Below.alloc ?_ (by first | omega | (simp; done) | (simp; omega)) _ | refine below_drewN ?_ _ | refine Below.drew ?_ | refine Below.trans ?_ (Below.mono (by assumption) (by first | omega | (simp; done) | (simp; omega))))))))), by repeat (first | exact Below.refl _ _ | assumption | refine Below.setCell ?_ (by first | omega | (simp; done) | (simp; omega)) _ | refine Below.alloc ?_ (by first | omega | (simp; done) | (simp; omega)) _ | refine below_drewN ?_ _ | refine Below.drew ?_ | refine Below.trans ?_ (Below.mono (by assumption) (by first | omega | (simp; done) | (simp; omega))))⟩ (fun W1 hS => ?_)
  have Q0 := Lib.hid hS.1.drew
  have B0 := Lib.hid hS.2.drew
  have hz : w.heap.size + 1 + 1 < W1.drew.heap.size := (hS.1.c (w.heap.size + 1 + 1) [.int .i64 0, .int .i64 0] (by unfold PlL; simp)).lt
  clear hS HM hr rb1 rb2 t1
  go_cut [10, 11, 12, 13] (fun u v x y W => ∃ m0 m1 m2 m3 : Nat, u = .pointer (some ⟨m0, 0, none⟩) ∧ v = .pointer (some ⟨m1, 0, none⟩) ∧ x = .pointer (some ⟨m2, 0, none⟩) ∧ y = .pointer (some ⟨m3, 0, none⟩) ∧ T4 w W b k o (PlL w.heap.size b k t) (w.heap.size + 1 + 1 + 1) m0 m1 m2 m3 [.int .i64 (X k0), .int .i64 (Y k0)] [.int .i64 (X kk), .int .i64 (Y kk)] [.int .i64 (X k2), .int .i64 (Y k2)] [.int .i64 (X k3), .int .i64 (Y k3)])
  case first =>
    refine wp_region_held_drew (S := C4 ba (off + k0 * 2) (off + kk * 2) (off + k2 * 2) (off + k3 * 2) (X k0) (Y k0) (X kk) (Y kk) (X k2) (Y k2) (X k3) (Y k3)) (by kernel_rfl) (SC.out _ B0.out) (fun hHeld => ?_)
    generalize W1.drew = w0 at *
    unfold C4 at *
    obtain ⟨⟨u1, -⟩, ⟨u2, -⟩, ⟨u3, -⟩, ⟨u4, -⟩⟩ := HW.out
    obtain ⟨e0, e2, e3⟩ := HE.out
    have zb : ¬ n = 0 := Nat.ne_of_gt hn0
    refine wpAnyH_takeD 0 24 (v := ?_) (by kernel_rfl) (by kernel_rfl) (by kernel_rfl) (by kernel_rfl) (by rfl) (fun _ _ _ h => h) ?_ hHeld ?_
    rotate_left 1
    (intro o ho W hSw; simp only [List.getElem?_toArray, List.getElem?_cons_succ, List.getElem?_cons_zero, Option.some.injEq] at ho; subst ho; (try dsimp only at hSw); go_simp; try with_reducible rfl)
    (try simp only [Act.put, List.setIfInBounds_toArray, List.set_cons_zero, List.set_cons_succ])
    refine wpAnyH_takeD 1 25 (v := ?_) (by kernel_rfl) (by kernel_rfl) (by kernel_rfl) (by kernel_rfl) (by rfl) (fun _ _ _ h => h) ?_ hHeld ?_
    rotate_left 1
    (intro o ho W hSw; simp only [List.getElem?_toArray, List.getElem?_cons_succ, List.getElem?_cons_zero, Option.some.injEq] at ho; subst ho; (try dsimp only at hSw); go_simp; try with_reducible rfl)
    (try simp only [Act.put, List.setIfInBounds_toArray, List.set_cons_zero, List.set_cons_succ])
    refine wpAnyH_takeD 2 26 (v := ?_) (by kernel_rfl) (by kernel_rfl) (by kernel_rfl) (by kernel_rfl) (by rfl) (fun _ _ _ h => h) ?_ hHeld ?_
    rotate_left 1
    (intro o ho W hSw; simp only [List.getElem?_toArray, List.getElem?_cons_succ, List.getElem?_cons_zero, Option.some.injEq] at ho; subst ho; (try dsimp only at hSw); go_simp; try with_reducible rfl)
    (try simp only [Act.put, List.setIfInBounds_toArray, List.set_cons_zero, List.set_cons_succ])
    refine wpAnyH_takeD 3 27 (v := ?_) (by kernel_rfl) (by kernel_rfl) (by kernel_rfl) (by kernel_rfl) (by rfl) (fun _ _ _ h => h) ?_ hHeld ?_
    rotate_left 1
    (intro o ho W hSw; simp only [List.getElem?_toArray, List.getElem?_cons_succ, List.getElem?_cons_zero, Option.some.injEq] at ho; subst ho; (try dsimp only at hSw); go_simp; try with_reducible rfl)
    (try simp only [Act.put, List.setIfInBounds_toArray, List.set_cons_zero, List.set_cons_succ])
    refine wpAnyH_takeD 4 28 (v := ?_) (by kernel_rfl) (by kernel_rfl) (by kernel_rfl) (by kernel_rfl) (by rfl) (fun _ _ _ h => h) ?_ hHeld ?_
    rotate_left 1
    (intro o ho W hSw; simp only [List.getElem?_toArray, List.getElem?_cons_succ, List.getElem?_cons_zero, Option.some.injEq] at ho; subst ho; (try dsimp only at hSw); go_simp; try with_reducible rfl)
    (try simp only [Act.put, List.setIfInBounds_toArray, List.set_cons_zero, List.set_cons_succ])
    refine wpAnyH_takeD 5 29 (v := ?_) (by kernel_rfl) (by kernel_rfl) (by kernel_rfl) (by kernel_rfl) (by rfl) (fun _ _ _ h => h) ?_ hHeld ?_
    rotate_left 1
    (intro o ho W hSw; simp only [List.getElem?_toArray, List.getElem?_cons_succ, List.getElem?_cons_zero, Option.some.injEq] at ho; subst ho; (try dsimp only at hSw); go_simp; try with_reducible rfl)
    (try simp only [Act.put, List.setIfInBounds_toArray, List.set_cons_zero, List.set_cons_succ])
    refine wpAnyH_takeD 6 30 (v := ?_) (by kernel_rfl) (by kernel_rfl) (by kernel_rfl) (by kernel_rfl) (by rfl) (fun _ _ _ h => h) ?_ hHeld ?_
    rotate_left 1
    (intro o ho W hSw; simp only [List.getElem?_toArray, List.getElem?_cons_succ, List.getElem?_cons_zero, Option.some.injEq] at ho; subst ho; (try dsimp only at hSw); go_simp; try with_reducible rfl)
    (try simp only [Act.put, List.setIfInBounds_toArray, List.set_cons_zero, List.set_cons_succ])
    refine wpAnyH_takeD 7 31 (v := ?_) (by kernel_rfl) (by kernel_rfl) (by kernel_rfl) (by kernel_rfl) (by rfl) (fun _ _ _ h => h) ?_ hHeld ?_
    rotate_left 1
    (intro o ho W hSw; simp only [List.getElem?_toArray, List.getElem?_cons_succ, List.getElem?_cons_zero, Option.some.injEq] at ho; subst ho; (try dsimp only at hSw); go_simp; try with_reducible rfl)
    (try simp only [Act.put, List.setIfInBounds_toArray, List.set_cons_zero, List.set_cons_succ])
    refine wpAnyH_takeD 8 32 (v := ?_) (by kernel_rfl) (by kernel_rfl) (by kernel_rfl) (by kernel_rfl) (by rfl) (fun _ _ _ h => h) ?_ hHeld ?_
    rotate_left 1
    (intro o ho W hSw; simp only [List.getElem?_toArray, List.getElem?_cons_succ, List.getElem?_cons_zero, Option.some.injEq] at ho; subst ho; (try dsimp only at hSw); go_simp; try with_reducible rfl)
    (try simp only [Act.put, List.setIfInBounds_toArray, List.set_cons_zero, List.set_cons_succ])
    refine wpAnyH_takeD 9 33 (v := ?_) (by kernel_rfl) (by kernel_rfl) (by kernel_rfl) (by kernel_rfl) (by rfl) (fun _ _ _ h => h) ?_ hHeld ?_
    rotate_left 1
    (intro o ho W hSw; simp only [List.getElem?_toArray, List.getElem?_cons_succ, List.getElem?_cons_zero, Option.some.injEq] at ho; subst ho; (try dsimp only at hSw); go_simp; try with_reducible rfl)
    (try simp only [Act.put, List.setIfInBounds_toArray, List.set_cons_zero, List.set_cons_succ])
    refine wpAnyH_takeD 10 34 (v := ?_) (by kernel_rfl) (by kernel_rfl) (by kernel_rfl) (by kernel_rfl) (by rfl) (fun _ _ _ h => h) ?_ hHeld ?_
    rotate_left 1
    (intro o ho W hSw; simp only [List.getElem?_toArray, List.getElem?_cons_succ, List.getElem?_cons_zero, Option.some.injEq] at ho; subst ho; (try dsimp only at hSw); go_simp; try with_reducible rfl)
    (try simp only [Act.put, List.setIfInBounds_toArray, List.set_cons_zero, List.set_cons_succ])
    refine wpAnyH_takeD 11 35 (v := ?_) (by kernel_rfl) (by kernel_rfl) (by kernel_rfl) (by kernel_rfl) (by rfl) (fun _ _ _ h => h) ?_ hHeld ?_
    rotate_left 1
    (intro o ho W hSw; simp only [List.getElem?_toArray, List.getElem?_cons_succ, List.getElem?_cons_zero, Option.some.injEq] at ho; subst ho; (try dsimp only at hSw); go_simp; try with_reducible rfl)
    (try simp only [Act.put, List.setIfInBounds_toArray, List.set_cons_zero, List.set_cons_succ])
    refine wpAnyH_takeD 12 36 (v := ?_) (by kernel_rfl) (by kernel_rfl) (by kernel_rfl) (by kernel_rfl) (by rfl) (fun _ _ _ h => h) ?_ hHeld ?_
    rotate_left 1
    (intro o ho W hSw; simp only [List.getElem?_toArray, List.getElem?_cons_succ, List.getElem?_cons_zero, Option.some.injEq] at ho; subst ho; (try dsimp only at hSw); go_simp; try with_reducible rfl)
    (try simp only [Act.put, List.setIfInBounds_toArray, List.set_cons_zero, List.set_cons_succ])
    refine wpAnyH_takeD 13 37 (v := ?_) (by kernel_rfl) (by kernel_rfl) (by kernel_rfl) (by kernel_rfl) (by rfl) (fun _ _ _ h => h) ?_ hHeld ?_
    rotate_left 1
    (intro o ho W hSw; simp only [List.getElem?_toArray, List.getElem?_cons_succ, List.getElem?_cons_zero, Option.some.injEq] at ho; subst ho; (try dsimp only at hSw); go_simp; try with_reducible rfl)
    (try simp only [Act.put, List.setIfInBounds_toArray, List.set_cons_zero, List.set_cons_succ])
    refine wpAnyH_takeD 14 38 (v := ?_) (by kernel_rfl) (by kernel_rfl) (by kernel_rfl) (by kernel_rfl) (by rfl) (fun _ _ _ h => h) ?_ hHeld ?_
    rotate_left 1
    (intro o ho W hSw; simp only [List.getElem?_toArray, List.getElem?_cons_succ, List.getElem?_cons_zero, Option.some.injEq] at ho; subst ho; (try dsimp only at hSw); go_simp; try with_reducible rfl)
    (try simp only [Act.put, List.setIfInBounds_toArray, List.set_cons_zero, List.set_cons_succ])
    refine wpAnyH_takeD 15 39 (v := ?_) (by kernel_rfl) (by kernel_rfl) (by kernel_rfl) (by kernel_rfl) (by rfl) (fun _ _ _ h => h) ?_ hHeld ?_
    rotate_left 1
    (intro o ho W hSw; simp only [List.getElem?_toArray, List.getElem?_cons_succ, List.getElem?_cons_zero, Option.some.injEq] at ho; subst ho; (try dsimp only at hSw); go_simp; try with_reducible rfl)
    (try simp only [Act.put, List.setIfInBounds_toArray, List.set_cons_zero, List.set_cons_succ])
    refine wpAnyH_takeD 16 40 (v := ?_) (by kernel_rfl) (by kernel_rfl) (by kernel_rfl) (by kernel_rfl) (by rfl) (fun _ _ _ h => h) ?_ hHeld ?_
    rotate_left 1
    (intro o ho W hSw; simp only [List.getElem?_toArray, List.getElem?_cons_succ, List.getElem?_cons_zero, Option.some.injEq] at ho; subst ho; (try dsimp only at hSw); go_simp; try with_reducible rfl)
    (try simp only [Act.put, List.setIfInBounds_toArray, List.set_cons_zero, List.set_cons_succ])
    refine wpAnyH_takeD 17 41 (v := ?_) (by kernel_rfl) (by kernel_rfl) (by kernel_rfl) (by kernel_rfl) (by rfl) (fun _ _ _ h => h) ?_ hHeld ?_
    rotate_left 1
    (intro o ho W hSw; simp only [List.getElem?_toArray, List.getElem?_cons_succ, List.getElem?_cons_zero, Option.some.injEq] at ho; subst ho; (try dsimp only at hSw); go_simp; try with_reducible rfl)
    (try simp only [Act.put, List.setIfInBounds_toArray, List.set_cons_zero, List.set_cons_succ])
    refine wpAnyH_takeD 18 42 (v := ?_) (by kernel_rfl) (by kernel_rfl) (by kernel_rfl) (by kernel_rfl) (by rfl) (fun _ _ _ h => h) ?_ hHeld ?_
    rotate_left 1
    (intro o ho W hSw; simp only [List.getElem?_toArray, List.getElem?_cons_succ, List.getElem?_cons_zero, Option.some.injEq] at ho; subst ho; (try dsimp only at hSw); go_simp; try with_reducible rfl)
    (try simp only [Act.put, List.setIfInBounds_toArray, List.set_cons_zero, List.set_cons_succ])
    refine wpAnyH_takeD 19 43 (v := ?_) (by kernel_rfl) (by kernel_rfl) (by kernel_rfl) (by kernel_rfl) (by rfl) (fun _ _ _ h => h) ?_ hHeld ?_
    rotate_left 1
    (intro o ho W hSw; simp only [List.getElem?_toArray, List.getElem?_cons_succ, List.getElem?_cons_zero, Option.some.injEq] at ho; subst ho; (try dsimp only at hSw); go_simp; try with_reducible rfl)
    (try simp only [Act.put, List.setIfInBounds_toArray, List.set_cons_zero, List.set_cons_succ])
    refine wpAnyH_takeD 20 44 (v := ?_) (by kernel_rfl) (by kernel_rfl) (by kernel_rfl) (by kernel_rfl) (by rfl) (fun _ _ _ h => h) ?_ hHeld ?_
    rotate_left 1
    (intro o ho W hSw; simp only [List.getElem?_toArray, List.getElem?_cons_succ, List.getElem?_cons_zero, Option.some.injEq] at ho; subst ho; (try dsimp only at hSw); go_simp; try with_reducible rfl)
    (try simp only [Act.put, List.setIfInBounds_toArray, List.set_cons_zero, List.set_cons_succ])
    refine wpAnyH_takeD 21 45 (v := ?_) (by kernel_rfl) (by kernel_rfl) (by kernel_rfl) (by kernel_rfl) (by rfl) (fun _ _ _ h => h) ?_ hHeld ?_
    rotate_left 1
    (intro o ho W hSw; simp only [List.getElem?_toArray, List.getElem?_cons_succ, List.getElem?_cons_zero, Option.some.injEq] at ho; subst ho; (try dsimp only at hSw); go_simp; try with_reducible rfl)
    (try simp only [Act.put, List.setIfInBounds_toArray, List.set_cons_zero, List.set_cons_succ])
    refine wpAnyH_takeD 22 46 (v := ?_) (by kernel_rfl) (by kernel_rfl) (by kernel_rfl) (by kernel_rfl) (by rfl) (fun _ _ _ h => h) ?_ hHeld ?_
    rotate_left 1
    (intro o ho W hSw; simp only [List.getElem?_toArray, List.getElem?_cons_succ, List.getElem?_cons_zero, Option.some.injEq] at ho; subst ho; (try dsimp only at hSw); go_simp; try with_reducible rfl)
    (try simp only [Act.put, List.setIfInBounds_toArray, List.set_cons_zero, List.set_cons_succ])
    refine wpAnyH_takeD 23 47 (v := ?_) (by kernel_rfl) (by kernel_rfl) (by kernel_rfl) (by kernel_rfl) (by rfl) (fun _ _ _ h => h) ?_ hHeld ?_
    rotate_left 1
    (intro o ho W hSw; simp only [List.getElem?_toArray, List.getElem?_cons_succ, List.getElem?_cons_zero, Option.some.injEq] at ho; subst ho; (try dsimp only at hSw); go_simp; try with_reducible rfl)
    (try simp only [Act.put, List.setIfInBounds_toArray, List.set_cons_zero, List.set_cons_succ])
    refine wpAnyH_takeD 24 48 (v := ?_) (by kernel_rfl) (by kernel_rfl) (by kernel_rfl) (by kernel_rfl) (by rfl) (fun _ _ _ h => h) ?_ hHeld ?_
    rotate_left 1
    (intro o ho W hSw; simp only [List.getElem?_toArray, List.getElem?_cons_succ, List.getElem?_cons_zero, Option.some.injEq] at ho; subst ho; (try dsimp only at hSw); go_simp; try with_reducible rfl)
    (try simp only [Act.put, List.setIfInBounds_toArray, List.set_cons_zero, List.set_cons_succ])
    refine wpAnyH_takeD 25 49 (v := ?_) (by kernel_rfl) (by kernel_rfl) (by kernel_rfl) (by kernel_rfl) (by rfl) (fun _ _ _ h => h) ?_ hHeld ?_
    rotate_left 1
    (intro o ho W hSw; simp only [List.getElem?_toArray, List.getElem?_cons_succ, List.getElem?_cons_zero, Option.some.injEq] at ho; subst ho; (try dsimp only at hSw); go_simp; try with_reducible rfl)
    (try simp only [Act.put, List.setIfInBounds_toArray, List.set_cons_zero, List.set_cons_succ])
    refine wpAnyH_takeD 26 50 (v := ?_) (by kernel_rfl) (by kernel_rfl) (by kernel_rfl) (by kernel_rfl) (by rfl) (fun _ _ _ h => h) ?_ hHeld ?_
    rotate_left 1
    (intro o ho W hSw; simp only [List.getElem?_toArray, List.getElem?_cons_succ, List.getElem?_cons_zero, Option.some.injEq] at ho; subst ho; (try dsimp only at hSw); go_simp; try with_reducible rfl)
    (try simp only [Act.put, List.setIfInBounds_toArray, List.set_cons_zero, List.set_cons_succ])
    clear u1 u2 u3 u4 e0 e2 e3 zb R1 R2 z0 z1 z2 z3 zn HW HE
    refine wpAnyH_inv2 (PlI w b k o ba off n c X Y i t r k0 kk k2 k3) 4 (fun listed a W hI => ?_) (fun n' listed a W hI => ?_) (fun n' listed a W hI i' hi => ?_) 4 _ _ _ ⟨false, false, false, false, undef, undef, undef, undef, rfl, rfl, rfl, Q0.out, B0.out, A4.zero (by omega) _ _ _ _⟩
    · obtain ⟨p0, p1, p2, p3, x10, x11, x12, x13, hn, rfl, rfl, hQ, hB, hA⟩ := hI
      have ha : p0 = true ∧ p1 = true ∧ p2 = true ∧ p3 = true := by
        clear hQ hB hA
        revert p3 p2 p1 p0
        decide
      obtain ⟨rfl, rfl, rfl, rfl⟩ := ha
      obtain ⟨m0, m1, m2, m3, rfl, rfl, rfl, rfl, hT⟩ := hA.fin hQ plL_lt (by omega)
      have T0 := Lib.hid hT
      have hHeld := SC.out _ hB
      clear B0
      have B0 := Lib.hid hB
      clear hn hQ hB hA hT Q0
      unfold PlA
      unfold C4 at *
      refine wpAnyH_onlyD 31 (by kernel_rfl) (fun o ho K hK => ?_) (by kernel_rfl)
      simp only [List.getElem?_toArray, List.getElem?_cons_succ, List.getElem?_cons_zero, Option.some.injEq] at ho
      subst ho
      have r0 := T0.out.a0.c 0 _ rfl
      have r1 := T0.out.a0.c 1 _ rfl
      have rf := T0.out.a0.f
      go_simp
      have T1 := Lib.hid (T0.out.put0 (.int .i64 (X k0)) (.int .i64 (Y k0)))
      have B1 := Lib.hid (sp_bel2 B0.out T0.out.ge.1 (.int .i64 (X k0)) (.int .i64 (Y k0)))
      refine hK.out _ _ (SC.out _ B1.out) ?_
      clear hK K hHeld r0 r1 rf T0 B0
      intro hHeld
      refine wpAnyH_onlyD 32 (by kernel_rfl) (fun o ho K hK => ?_) (by kernel_rfl)
      simp only [List.getElem?_toArray, List.getElem?_cons_succ, List.getElem?_cons_zero, Option.some.injEq] at ho
      subst ho
      have r0 := T1.out.a1.c 0 _ rfl
      have r1 := T1.out.a1.c 1 _ rfl
      have rf := T1.out.a1.f
      go_simp
      have T2 := Lib.hid (T1.out.put1 (.int .i64 (X kk)) (.int .i64 (Y kk)))
      have B2 := Lib.hid (sp_bel2 B1.out T1.out.ge.2.1 (.int .i64 (X kk)) (.int .i64 (Y kk)))
      refine hK.out _ _ (SC.out _ B2.out) ?_
      clear hK K hHeld r0 r1 rf T1 B1
      intro hHeld
      refine wpAnyH_onlyD 33 (by kernel_rfl) (fun o ho K hK => ?_) (by kernel_rfl)
      simp only [List.getElem?_toArray, List.getElem?_cons_succ, List.getElem?_cons_zero, Option.some.injEq] at ho
      subst ho
      have r0 := T2.out.a2.c 0 _ rfl
      have r1 := T2.out.a2.c 1 _ rfl
      have rf := T2.out.a2.f
      go_simp
      have T3 := Lib.hid (T2.out.put2 (.int .i64 (X k2)) (.int .i64 (Y k2)))
      have B3 := Lib.hid (sp_bel2 B2.out T2.out.ge.2.2.1 (.int .i64 (X k2)) (.int .i64 (Y k2)))
      refine hK.out _ _ (SC.out _ B3.out) ?_
      clear hK K hHeld r0 r1 rf T2 B2
      intro hHeld
      refine wpAnyH_onlyD 34 (by kernel_rfl) (fun o ho K hK => ?_) (by kernel_rfl)
      simp only [List.getElem?_toArray, List.getElem?_cons_succ, List.getElem?_cons_zero, Option.some.injEq] at ho
      subst ho
      have r0 := T3.out.a3.c 0 _ rfl
      have r1 := T3.out.a3.c 1 _ rfl
      have rf := T3.out.a3.f
      go_simp
      have T4 := Lib.hid (T3.out.put3 (.int .i64 (X k3)) (.int .i64 (Y k3)))
      have B4 := Lib.hid (sp_bel2 B3.out T3.out.ge.2.2.2 (.int .i64 (X k3)) (.int .i64 (Y k3)))
      refine hK.out _ _ (SC.out _ B4.out) ?_
      clear hK K hHeld r0 r1 rf T3 B3
      intro hHeld
      refine wpAnyH_done (by kernel_rfl) ?_ _
      clear hHeld SC
      go_wp2_with fail
      go_meet
      exact ⟨m0, m1, m2, m3, rfl, rfl, rfl, rfl, T4.out⟩
    · obtain ⟨p0, p1, p2, p3, x10, x11, x12, x13, hn, rfl, rfl, hQ, hB, hA⟩ := hI
      have hp : (p0 && p1 && p2 && p3) = false := by
        clear hQ hB hA
        cases p0 <;> cases p1 <;> cases p2 <;> cases p3 <;> first | rfl | (exfalso; simp at hn)
      clear hn hQ hB hA
      revert hp
      revert p3 p2 p1 p0
      decide +kernel
    · obtain ⟨p0, p1, p2, p3, x10, x11, x12, x13, hn, rfl, rfl, hQ, hB, hA⟩ := hI
      have hp : (p0 && p1 && p2 && p3) = false := by
        clear hQ hB hA hi
        cases p0 <;> cases p1 <;> cases p2 <;> cases p3 <;> first | rfl | (exfalso; simp at hn)
      have ha := of_decide_eq_true (sp_all (P := fun i => decide ((i = 27 ∧ p0 = false) ∨ (i = 28 ∧ p1 = false) ∨ (i = 29 ∧ p2 = false) ∨ (i = 30 ∧ p3 = false))) (by
        clear hi hn hQ hB hA
        revert hp
        revert p3 p2 p1 p0
        decide +kernel) hi)
      have Q0 := Lib.hid hQ
      have B0 := Lib.hid hB
      have H0 := Lib.hid hA
      clear hHeld hi hQ hB hA hp
      rcases ha with ⟨rfl, rfl⟩ | ⟨rfl, rfl⟩ | ⟨rfl, rfl⟩ | ⟨rfl, rfl⟩
      · skip
        refine ⟨by kernel_rfl, fun o ho K' hK => ?_⟩
        simp only [List.getElem?_toArray, List.getElem?_cons_succ, List.getElem?_cons_zero, Option.some.injEq] at ho
        subst ho
        unfold PlA
        go_simp
        exact hK.out _ _ (SC.out _ (B0.out.alloc B0.out.size _)) ⟨true, p1, p2, p3, _, x11, x12, x13, (by simp only [Bool.not_false, Bool.not_true, Bool.toNat_true, Bool.toNat_false] at hn ⊢; omega), rfl, rfl, Q0.out.alloc _, B0.out.alloc B0.out.size _, H0.out.add0 _⟩
      · skip
        refine ⟨by kernel_rfl, fun o ho K' hK => ?_⟩
        simp only [List.getElem?_toArray, List.getElem?_cons_succ, List.getElem?_cons_zero, Option.some.injEq] at ho
        subst ho
        unfold PlA
        go_simp
        exact hK.out _ _ (SC.out _ (B0.out.alloc B0.out.size _)) ⟨p0, true, p2, p3, x10, _, x12, x13, (by simp only [Bool.not_false, Bool.not_true, Bool.toNat_true, Bool.toNat_false] at hn ⊢; omega), rfl, rfl, Q0.out.alloc _, B0.out.alloc B0.out.size _, H0.out.add1 _⟩
      · skip
        refine ⟨by kernel_rfl, fun o ho K' hK => ?_⟩
        simp only [List.getElem?_toArray, List.getElem?_cons_succ, List.getElem?_cons_zero, Option.some.injEq] at ho
        subst ho
        unfold PlA
        go_simp
        exact hK.out _ _ (SC.out _ (B0.out.alloc B0.out.size _)) ⟨p0, p1, true, p3, x10, x11, _, x13, (by simp only [Bool.not_false, Bool.not_true, Bool.toNat_true, Bool.toNat_false] at hn ⊢; omega), rfl, rfl, Q0.out.alloc _, B0.out.alloc B0.out.size _, H0.out.add2 _⟩
      · skip
        refine ⟨by kernel_rfl, fun o ho K' hK => ?_⟩
        simp only [List.getElem?_toArray, List.getElem?_cons_succ, List.getElem?_cons_zero, Option.some.injEq] at ho
        subst ho
        unfold PlA
        go_simp
        exact hK.out _ _ (SC.out _ (B0.out.alloc B0.out.size _)) ⟨p0, p1, p2, true, x10, x11, x12, _, (by simp only [Bool.not_false, Bool.not_true, Bool.toNat_true, Bool.toNat_false] at hn ⊢; omega), rfl, rfl, Q0.out.alloc _, B0.out.alloc B0.out.size _, H0.out.add3 _⟩
  case rest =>
    obtain ⟨m0, m1, m2, m3, rfl, rfl, rfl, rfl, hT⟩ := hcut
    have T0 := Lib.hid hT.drew
    clear hT Q0 B0 SC z0 z1 z2 z3 zn HW HE
    go_wp2_with fail
    refine wp_region_held_drew (S := C4' m0 m1 m2 m3 (X k0) (Y k0) (X kk) (Y kk) (X k2) (Y k2) (X k3) (Y k3)) (by kernel_rfl) T0.out.cells (fun hHeld => ?_)
    generalize World.drew _ = wa at *
    unfold C4' at hHeld ⊢
    refine wpAnyH_takeD 0 52 (v := ?_) (by kernel_rfl) (by kernel_rfl) (by kernel_rfl) (by kernel_rfl) (by rfl) (fun _ _ _ h => h) ?_ hHeld ?_
    rotate_left 1
    (intro o ho W hSw; simp only [List.getElem?_toArray, List.getElem?_cons_succ, List.getElem?_cons_zero, Option.some.injEq] at ho; subst ho; (try dsimp only at hSw); go_simp; try with_reducible rfl)
    (try simp only [Act.put, List.setIfInBounds_toArray, List.set_cons_zero, List.set_cons_succ])
    refine wpAnyH_takeD 1 53 (v := ?_) (by kernel_rfl) (by kernel_rfl) (by kernel_rfl) (by kernel_rfl) (by rfl) (fun _ _ _ h => h) ?_ hHeld ?_
    rotate_left 1
    (intro o ho W hSw; simp only [List.getElem?_toArray, List.getElem?_cons_succ, List.getElem?_cons_zero, Option.some.injEq] at ho; subst ho; (try dsimp only at hSw); go_simp; try with_reducible rfl)
    (try simp only [Act.put, List.setIfInBounds_toArray, List.set_cons_zero, List.set_cons_succ])
    refine wpAnyH_takeD 2 54 (v := ?_) (by kernel_rfl) (by kernel_rfl) (by kernel_rfl) (by kernel_rfl) (by rfl) (fun _ _ _ h => h) ?_ hHeld ?_
    rotate_left 1
    (intro o ho W hSw; simp only [List.getElem?_toArray, List.getElem?_cons_succ, List.getElem?_cons_zero, Option.some.injEq] at ho; subst ho; (try dsimp only at hSw); go_simp; try with_reducible rfl)
    (try simp only [Act.put, List.setIfInBounds_toArray, List.set_cons_zero, List.set_cons_succ])
    refine wpAnyH_takeD 3 55 (v := ?_) (by kernel_rfl) (by kernel_rfl) (by kernel_rfl) (by kernel_rfl) (by rfl) (fun _ _ _ h => h) ?_ hHeld ?_
    rotate_left 1
    (intro o ho W hSw; simp only [List.getElem?_toArray, List.getElem?_cons_succ, List.getElem?_cons_zero, Option.some.injEq] at ho; subst ho; (try dsimp only at hSw); go_simp; try with_reducible rfl)
    (try simp only [Act.put, List.setIfInBounds_toArray, List.set_cons_zero, List.set_cons_succ])
    refine wpAnyH_takeD 4 56 (v := ?_) (by kernel_rfl) (by kernel_rfl) (by kernel_rfl) (by kernel_rfl) (by rfl) (fun _ _ _ h => h) ?_ hHeld ?_
    rotate_left 1
    (intro o ho W hSw; simp only [List.getElem?_toArray, List.getElem?_cons_succ, List.getElem?_cons_zero, Option.some.injEq] at ho; subst ho; (try dsimp only at hSw); go_simp; try with_reducible rfl)
    (try simp only [Act.put, List.setIfInBounds_toArray, List.set_cons_zero, List.set_cons_succ])
    refine wpAnyH_takeD 5 57 (v := ?_) (by kernel_rfl) (by kernel_rfl) (by kernel_rfl) (by kernel_rfl) (by rfl) (fun _ _ _ h => h) ?_ hHeld ?_
    rotate_left 1
    (intro o ho W hSw; simp only [List.getElem?_toArray, List.getElem?_cons_succ, List.getElem?_cons_zero, Option.some.injEq] at ho; subst ho; (try dsimp only at hSw); go_simp; try with_reducible rfl)
    (try simp only [Act.put, List.setIfInBounds_toArray, List.set_cons_zero, List.set_cons_succ])
    refine wpAnyH_takeD 6 58 (v := ?_) (by kernel_rfl) (by kernel_rfl) (by kernel_rfl) (by kernel_rfl) (by rfl) (fun _ _ _ h => h) ?_ hHeld ?_
    rotate_left 1
    (intro o ho W hSw; simp only [List.getElem?_toArray, List.getElem?_cons_succ, List.getElem?_cons_zero, Option.some.injEq] at ho; subst ho; (try dsimp only at hSw); go_simp; try with_reducible rfl)
    (try simp only [Act.put, List.setIfInBounds_toArray, List.set_cons_zero, List.set_cons_succ])
    refine wpAnyH_takeD 7 59 (v := ?_) (by kernel_rfl) (by kernel_rfl) (by kernel_rfl) (by kernel_rfl) (by rfl) (fun _ _ _ h => h) ?_ hHeld ?_
    rotate_left 1
    (intro o ho W hSw; simp only [List.getElem?_toArray, List.getElem?_cons_succ, List.getElem?_cons_zero, Option.some.injEq] at ho; subst ho; (try dsimp only at hSw); go_simp; try with_reducible rfl)
    (try simp only [Act.put, List.setIfInBounds_toArray, List.set_cons_zero, List.set_cons_succ])
    refine wpAnyH_takeD 8 60 (v := ?_) (by kernel_rfl) (by kernel_rfl) (by kernel_rfl) (by kernel_rfl) (by rfl) (fun _ _ _ h => h) ?_ hHeld ?_
    rotate_left 1
    (intro o ho W hSw; simp only [List.getElem?_toArray, List.getElem?_cons_succ, List.getElem?_cons_zero, Option.some.injEq] at ho; subst ho; (try dsimp only at hSw); go_simp; try with_reducible rfl)
    (try simp only [Act.put, List.setIfInBounds_toArray, List.set_cons_zero, List.set_cons_succ])
    refine wpAnyH_takeD 10 62 (v := ?_) (by kernel_rfl) (by kernel_rfl) (by kernel_rfl) (by kernel_rfl) (by rfl) (fun _ _ _ h => h) ?_ hHeld ?_
    rotate_left 1
    (intro o ho W hSw; simp only [List.getElem?_toArray, List.getElem?_cons_succ, List.getElem?_cons_zero, Option.some.injEq] at ho; subst ho; (try dsimp only at hSw); go_simp; try with_reducible rfl)
    (try simp only [Act.put, List.setIfInBounds_toArray, List.set_cons_zero, List.set_cons_succ])
    refine wpAnyH_takeD 11 63 (v := ?_) (by kernel_rfl) (by kernel_rfl) (by kernel_rfl) (by kernel_rfl) (by rfl) (fun _ _ _ h => h) ?_ hHeld ?_
    rotate_left 1
    (intro o ho W hSw; simp only [List.getElem?_toArray, List.getElem?_cons_succ, List.getElem?_cons_zero, Option.some.injEq] at ho; subst ho; (try dsimp only at hSw); go_simp; try with_reducible rfl)
    (try simp only [Act.put, List.setIfInBounds_toArray, List.set_cons_zero, List.set_cons_succ])
    refine wpAnyH_takeD 12 64 (v := ?_) (by kernel_rfl) (by kernel_rfl) (by kernel_rfl) (by kernel_rfl) (by rfl) (fun _ _ _ h => h) ?_ hHeld ?_
    rotate_left 1
    (intro o ho W hSw; simp only [List.getElem?_toArray, List.getElem?_cons_succ, List.getElem?_cons_zero, Option.some.injEq] at ho; subst ho; (try dsimp only at hSw); go_simp; try with_reducible rfl)
    (try simp only [Act.put, List.setIfInBounds_toArray, List.set_cons_zero, List.set_cons_succ])
    refine wpAnyH_takeD 13 65 (v := ?_) (by kernel_rfl) (by kernel_rfl) (by kernel_rfl) (by kernel_rfl) (by rfl) (fun _ _ _ h => h) ?_ hHeld ?_
    rotate_left 1
    (intro o ho W hSw; simp only [List.getElem?_toArray, List.getElem?_cons_succ, List.getElem?_cons_zero, Option.some.injEq] at ho; subst ho; (try dsimp only at hSw); go_simp; try with_reducible rfl)
    (try simp only [Act.put, List.setIfInBounds_toArray, List.set_cons_zero, List.set_cons_succ])
    refine wpAnyH_takeD 14 66 (v := ?_) (by kernel_rfl) (by kernel_rfl) (by kernel_rfl) (by kernel_rfl) (by rfl) (fun _ _ _ h => h) ?_ hHeld ?_
    rotate_left 1
    (intro o ho W hSw; simp only [List.getElem?_toArray, List.getElem?_cons_succ, List.getElem?_cons_zero, Option.some.injEq] at ho; subst ho; (try dsimp only at hSw); go_simp; try with_reducible rfl)
    (try simp only [Act.put, List.setIfInBounds_toArray, List.set_cons_zero, List.set_cons_succ])
    refine wpAnyH_takeD 15 67 (v := ?_) (by kernel_rfl) (by kernel_rfl) (by kernel_rfl) (by kernel_rfl) (by rfl) (fun _ _ _ h => h) ?_ hHeld ?_
    rotate_left 1
    (intro o ho W hSw; simp only [List.getElem?_toArray, List.getElem?_cons_succ, List.getElem?_cons_zero, Option.some.injEq] at ho; subst ho; (try dsimp only at hSw); go_simp; try with_reducible rfl)
    (try simp only [Act.put, List.setIfInBounds_toArray, List.set_cons_zero, List.set_cons_succ])
    refine wpAnyH_takeD 16 68 (v := ?_) (by kernel_rfl) (by kernel_rfl) (by kernel_rfl) (by kernel_rfl) (by rfl) (fun _ _ _ h => h) ?_ hHeld ?_
    rotate_left 1
    (intro o ho W hSw; simp only [List.getElem?_toArray, List.getElem?_cons_succ, List.getElem?_cons_zero, Option.some.injEq] at ho; subst ho; (try dsimp only at hSw); go_simp; try with_reducible rfl)
    (try simp only [Act.put, List.setIfInBounds_toArray, List.set_cons_zero, List.set_cons_succ])
    refine wpAnyH_takeD 17 69 (v := ?_) (by kernel_rfl) (by kernel_rfl) (by kernel_rfl) (by kernel_rfl) (by rfl) (fun _ _ _ h => h) ?_ hHeld ?_
    rotate_left 1
    (intro o ho W hSw; simp only [List.getElem?_toArray, List.getElem?_cons_succ, List.getElem?_cons_zero, Option.some.injEq] at ho; subst ho; (try dsimp only at hSw); go_simp; try with_reducible rfl)
    (try simp only [Act.put, List.setIfInBounds_toArray, List.set_cons_zero, List.set_cons_succ])
    refine wpAnyH_takeD 18 70 (v := ?_) (by kernel_rfl) (by kernel_rfl) (by kernel_rfl) (by kernel_rfl) (by rfl) (fun _ _ _ h => h) ?_ hHeld ?_
    rotate_left 1
    (intro o ho W hSw; simp only [List.getElem?_toArray, List.getElem?_cons_succ, List.getElem?_cons_zero, Option.some.injEq] at ho; subst ho; (try dsimp only at hSw); go_simp; try with_reducible rfl)
    (try simp only [Act.put, List.setIfInBounds_toArray, List.set_cons_zero, List.set_cons_succ])
    refine wpAnyH_onlyD 9 (by kernel_rfl) (fun o ho K hK => ?_) (by kernel_rfl)
    simp only [List.getElem?_toArray, List.getElem?_cons_succ, List.getElem?_cons_zero, Option.some.injEq] at ho
    subst ho
    go_simp
    refine (R1.out _ _ _ _ (plL_pb T0.out.q).1 (plL_pb T0.out.q).2.1 (plL_pb T0.out.q).2.2.1 T0.out.q.f.m).mono ?_
    rintro e w1 ⟨rfl, h⟩
    have T1 := Lib.hid (T0.out.fx h)
    go_wp2_with fail
    refine hK.out _ _ (T1.out.cells) ?_
    clear hK K hHeld
    intro hHeld
    clear h T0
    refine wpAnyH_onlyD 19 (by kernel_rfl) (fun o ho K hK => ?_) (by kernel_rfl)
    simp only [List.getElem?_toArray, List.getElem?_cons_succ, List.getElem?_cons_zero, Option.some.injEq] at ho
    subst ho
    go_simp
    refine (R2.out _ _ _ _ (plL_pb T1.out.q).1 (plL_pb T1.out.q).2.1 (plL_pb T1.out.q).2.2.1 T1.out.q.f.m).mono ?_
    rintro e w2 ⟨rfl, h⟩
    have T2 := Lib.hid (T1.out.fx h)
    go_wp2_with fail
    refine hK.out _ _ (T2.out.cells) ?_
    clear hK K hHeld
    intro hHeld
    clear h T1
    refine wpAnyH_takeD 20 72 (v := ?_) (by kernel_rfl) (by kernel_rfl) (by kernel_rfl) (by kernel_rfl) (by rfl) (fun _ _ _ h => h) ?_ hHeld ?_
    rotate_left 1
    (intro o ho W hSw; simp only [List.getElem?_toArray, List.getElem?_cons_succ, List.getElem?_cons_zero, Option.some.injEq] at ho; subst ho; (try dsimp only at hSw); go_simp; try with_reducible rfl)
    (try simp only [Act.put, List.setIfInBounds_toArray, List.set_cons_zero, List.set_cons_succ])
    obtain ⟨r0, r1⟩ := (plL_pb T2.out.q).2.2.2.h2''
    have rf := (plL_pb T2.out.q).2.2.2.f
    refine wpAnyH_onlyD 21 (by kernel_rfl) (fun o ho K hK => ?_) (by kernel_rfl)
    simp only [List.getElem?_toArray, List.getElem?_cons_succ, List.getElem?_cons_zero, Option.some.injEq] at ho
    subst ho
    go_simp
    refine hK.out _ _ (T2.out.cells_far _ _) ?_
    clear hK K hHeld
    intro hHeld
    refine wpAnyH_done (by kernel_rfl) ?_ _
    clear hHeld R1 R2
    go_wp2
    exact bodyPost_ret (v := .agg #[.int .i64 (oneF (X k0) (X kk) (X k2) (X k3) t), .int .i64 (oneF (Y k0) (Y kk) (Y k2) (Y k3) t)]) (by simp [results, Try.results27, go_sem, r0, r1]) rfl ⟨rfl, by have := Flag.set (Flag.set T2.out.q.f.f (r := w.heap.size + 1 + 1) (by omega) 0 (.int .i64 (oneF (X k0) (X kk) (X k2) (X k3) t))) (r := w.heap.size + 1 + 1) (by omega) 1 (.int .i64 (oneF (Y k0) (Y kk) (Y k2) (Y k3) t)); rw [Bool.or_assoc] at this; exact this⟩
set_option maxRecDepth 100000 in
set_option maxHeartbeats 4000000 in
theorem spAt_any (a : Option Addr) (n c : Nat) (X Y : Nat → Int) (i t : Int) (b k : Nat) (o : Bool) (w : World) (hmax : n ≤ 1000) (hi : In64 i) (ht : In64 t) (D : Dots w a n c X Y) (m : MAt w b k o) (hne : 0 < n → ∀ p, a = some p → p.block ≠ b) :
    Calls Try.prog 11 #[.pointer (some ⟨b, k, none⟩), .slice a n c, .int .i64 i, .int .i64 t] w fun e w' => e = .returned (.agg #[.int .i64 (placeX n X Y i t), .int .i64 (placeY n X Y i t)]) ∧ FxW w.heap.size w b k (o || placeO n X Y i t) w' := by
  have hlt := m.lt
  have V := Lib.hid (fun (W : World) (D : Dots W a n c X Y) => spRight_any a n c X Y W hmax D)
  have F0 := Lib.hid (Flag.start m ((Below.refl w.heap.size w).alloc (Nat.le_refl _) (.cells #[.int .i64 0, .int .i64 0] 32)))
  have D0 := Lib.hid (D.below ((Below.refl w.heap.size w).alloc (Nat.le_refl _) (.cells #[.int .i64 0, .int .i64 0] 32)) (Nat.le_refl _))
  have B0 := Lib.hid (BW.new w w.heap.size [.int .i64 0, .int .i64 0] 32 rfl)
  by_cases hl : lineR n X Y = 0
  rotate_left
  · have E := Lib.hid (show placeX n X Y i t = 0 ∧ placeY n X Y i t = 0 ∧ (o || placeO n X Y i t) = o by unfold placeX placeY placeO; rw [if_neg hl, if_neg hl, if_neg hl, Bool.or_false]; exact ⟨rfl, rfl, rfl⟩)
    rw [E.out.1, E.out.2.1, E.out.2.2]
    generalize lineR n X Y = q at *
    clear D m
    go_enter Try.func11, Try.ntmps11
    go_wp2_with fail
    refine (V.out _ D0.out).mono ?_
    rintro e w1 ⟨rfl, h⟩
    have F1 := Lib.hid (F0.out.more h)
    have B1 := Lib.hid (B0.out.below h B0.out.lt)
    clear h F0 B0 D0
    obtain ⟨r0, r1⟩ := B1.out.h2''
    have rf := B1.out.f
    go_wp2
    exact bodyPost_ret (v := .agg #[.int .i64 0, .int .i64 0]) (by simp [results, Try.results11, go_sem, r0, r1]) rfl ⟨rfl, Flag.set (Flag.set F1.out.f (r := w.heap.size) (Nat.le_refl _) 0 (.int .i64 0)) (r := w.heap.size) (Nat.le_refl _) 1 (.int .i64 0)⟩
  · rw [hl] at V
    have PL := Lib.hid (fun (W : World) (D : Dots W a n c X Y) (M : MAt W b k o) => spPlace_any a n c X Y i t b k o W hl hi ht D M)
    generalize placeX n X Y i t = px at *
    generalize placeY n X Y i t = py at *
    generalize placeO n X Y i t = po at *
    clear D m hl hi ht
    go_enter Try.func11, Try.ntmps11
    go_wp2_with fail
    refine (V.out _ D0.out).mono ?_
    rintro e w1 ⟨rfl, h⟩
    have F1 := Lib.hid (F0.out.more h)
    have B1 := Lib.hid (B0.out.below h B0.out.lt)
    have D1 := Lib.hid (D0.out.below h (Nat.le_refl _))
    clear h F0 B0 D0
    go_wp2_with fail
    refine (PL.out _ D1.out F1.out.m).mono ?_
    rintro e w2 ⟨rfl, h⟩
    have F2 := Lib.hid (F1.out.fx h)
    have B2 := Lib.hid (B1.out.fx h (by omega))
    clear h F1 B1 D1 PL V
    obtain ⟨r0, r1⟩ := B2.out.h2''
    have rf := B2.out.f
    go_wp2
    exact bodyPost_ret (v := .agg #[.int .i64 px, .int .i64 py]) (by simp [results, Try.results11, go_sem, r0, r1]) rfl ⟨rfl, Flag.set (Flag.set F2.out.f (r := w.heap.size) (Nat.le_refl _) 0 (.int .i64 px)) (r := w.heap.size) (Nat.le_refl _) 1 (.int .i64 py)⟩
end Go.Proofs.Ytjdhjabbojceeaa
