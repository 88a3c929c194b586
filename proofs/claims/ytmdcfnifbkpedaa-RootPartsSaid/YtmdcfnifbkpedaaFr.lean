/- The contract of the document's Root. -/
import Derived.Test.YtmdcfnifbkpedaaFq
import Derived.Test.YtmdcfnifbkpedaaFd
import Derived.Test.YtmdcfnifbkpedaaRm
namespace Go.Proofs.Ytmdcfnifbkpedaa
open Go.RowKit

theorem startN1 {B : Nat} {w W : World} {n : Nat} {b : Bool} {x : Int} (A : CellN W n b x) (g : n < W.heap.size) (z : B ≤ W.heap.size) (k : Below B w W) :
    (W.cell? ⟨n, 0, none⟩ = some (.bool (b)) ∧ W.cell? ⟨n, 1, none⟩ = some (.int .u64 (d0 (x))) ∧ W.cell? ⟨n, 2, none⟩ = some (.int .u64 (d1 (x))) ∧ W.cell? ⟨n, 3, none⟩ = some (.int .u64 (d2 (x))) ∧ W.cell? ⟨n, 4, none⟩ = some (.int .u64 (d3 (x)))) ∧ n < W.heap.size ∧ B ≤ W.heap.size ∧ Below B w W := ⟨⟨A.c0, A.c1, A.c2, A.c3, A.c4⟩, g, z, k⟩
theorem keepN1 {B : Nat} {w W W' : World} {n : Nat} {b : Bool} {x : Int} (hb : Below W.heap.size W W') (h : (W.cell? ⟨n, 0, none⟩ = some (.bool (b)) ∧ W.cell? ⟨n, 1, none⟩ = some (.int .u64 (d0 (x))) ∧ W.cell? ⟨n, 2, none⟩ = some (.int .u64 (d1 (x))) ∧ W.cell? ⟨n, 3, none⟩ = some (.int .u64 (d2 (x))) ∧ W.cell? ⟨n, 4, none⟩ = some (.int .u64 (d3 (x)))) ∧ n < W.heap.size ∧ B ≤ W.heap.size ∧ Below B w W) :
    (W'.cell? ⟨n, 0, none⟩ = some (.bool (b)) ∧ W'.cell? ⟨n, 1, none⟩ = some (.int .u64 (d0 (x))) ∧ W'.cell? ⟨n, 2, none⟩ = some (.int .u64 (d1 (x))) ∧ W'.cell? ⟨n, 3, none⟩ = some (.int .u64 (d2 (x))) ∧ W'.cell? ⟨n, 4, none⟩ = some (.int .u64 (d3 (x)))) ∧ n < W'.heap.size ∧ B ≤ W'.heap.size ∧ Below B w W' := by
  obtain ⟨⟨a0, a1, a2, a3, a4⟩, g, z, k⟩ := h
  have A : CellN W n b x := ⟨a0, a1, a2, a3, a4⟩
  have := hb.size
  exact startN1 (A.below hb g) (by omega) (by omega) (k.trans (hb.mono z))
theorem cellN_of {B : Nat} {w W : World} {n : Nat} {b : Bool} {x : Int} (h : (W.cell? ⟨n, 0, none⟩ = some (.bool (b)) ∧ W.cell? ⟨n, 1, none⟩ = some (.int .u64 (d0 (x))) ∧ W.cell? ⟨n, 2, none⟩ = some (.int .u64 (d1 (x))) ∧ W.cell? ⟨n, 3, none⟩ = some (.int .u64 (d2 (x))) ∧ W.cell? ⟨n, 4, none⟩ = some (.int .u64 (d3 (x)))) ∧ n < W.heap.size ∧ B ≤ W.heap.size ∧ Below B w W) : CellN W n b x ∧ n < W.heap.size ∧ Below B w W :=
  ⟨⟨h.1.1, h.1.2.1, h.1.2.2.1, h.1.2.2.2.1, h.1.2.2.2.2⟩, h.2.1, h.2.2.2⟩

/-- t bits are open: the root lies from n on, below n + 2^t -/
structure Open (s n : Int) (t : Nat) : Prop where
  lo : n ≤ s
  hi : s < n + 2 ^ t
  n0 : 0 ≤ n
  top : n + 2 ^ t ≤ 18446744073709551616
theorem Open.up {s n : Int} {u : Nat} (k : Open s n (u + 1)) (h : n + 2 ^ u ≤ s) : Open s (n + 2 ^ u) u := by
  obtain ⟨lo, hi, n0, top⟩ := k
  rw [Int.pow_succ] at hi top
  have : (0 : Int) < 2 ^ u := Int.pow_pos (by omega)
  exact ⟨h, by omega, by omega, by omega⟩
theorem Open.down {s n : Int} {u : Nat} (k : Open s n (u + 1)) (h : s < n + 2 ^ u) : Open s n u := by
  obtain ⟨lo, hi, n0, top⟩ := k
  rw [Int.pow_succ] at hi top
  have : (0 : Int) < 2 ^ u := Int.pow_pos (by omega)
  exact ⟨lo, h, n0, by omega⟩
theorem Open.fits {s n : Int} {u : Nat} (k : Open s n (u + 1)) : ∃ p : Int, IntKind.u64.wrap (2 ^ u) = p ∧ 1 ≤ p ∧ n + p ≤ 18446744073709551615 ∧ Hid (p = 2 ^ u) := by
  obtain ⟨lo, hi, n0, top⟩ := k
  rw [Int.pow_succ] at hi top
  have : (0 : Int) < 2 ^ u := Int.pow_pos (by omega)
  exact ⟨2 ^ u, by rw [IntKind.wrap_u64]; omega, by omega, by omega, rfl⟩

set_option maxHeartbeats 4000000 in
theorem rRoot_any (a : Int) (w : World) (ha : In128 a) :
    Calls Try.prog 42 #[.agg #[.bool (decide (a < 0)), .int .u64 (d0 (a.natAbs)), .int .u64 (d1 (a.natAbs)), .int .u64 (d2 (a.natAbs)), .int .u64 (d3 (a.natAbs))]] w fun e w' => e = .returned (.int .u64 (rootI a)) ∧ Below w.heap.size w w' := by
  have A := abs128 ha
  by_cases p : a ≤ 0
  · have K := Lib.hid (rootI_neg p)
    have t : cmpI a 0 ≤ 0 := by unfold cmpI; split <;> (try split) <;> omega
    clear p
    go_enter Try.func42, Try.ntmps42
    go_wp2_with fail
    refine (rSign_any a _ ha).mono ?_
    rintro e w1 ⟨rfl, hb1⟩
    have z_w1 := hb1.size
    try simp at z_w1
    have y_w1 : w.heap.size ≤ w1.heap.size := by omega
    go_wp2
    go_ret
    exact ⟨retI K.out.symm, by repeat (first | exact Below.refl _ _ | assumption | refine Below.setCell ?_ (by first | omega | (simp; done) | (simp; omega)) _ | refine Below.alloc ?_ (by first | omega | (simp; done) | (simp; omega)) _ | refine below_drewN ?_ _ | refine Below.drew ?_ | refine Below.trans ?_ (Below.mono (by assumption) (by first | omega | (simp; done) | (simp; omega))))⟩
  · have t : ¬ cmpI a 0 ≤ 0 := by unfold cmpI; split <;> (try split) <;> omega
    obtain ⟨s, ks⟩ := isRoot_ex (n := a) (by omega)
    have s2 := root_small ks (by unfold In128 at ha; omega)
    have KS := Lib.hid ks
    have NA := Lib.hid (show (a.natAbs : Int) = a by omega)
    have E := Lib.hid (rootI_eq ks)
    have O := Lib.hid (show Open s 0 64 from ⟨ks.s0, by omega, by omega, by omega⟩)
    clear ks p
    go_enter Try.func42, Try.ntmps42
    go_wp2_with fail
    refine (rSign_any a _ ha).mono ?_
    rintro e w1 ⟨rfl, hb1⟩
    have z1 : w.heap.size < w1.heap.size := by have := hb1.size; simp at this; omega
    have C1 : CellN w1 w.heap.size (decide (a < 0)) a.natAbs := (CellN.new w _ _ _).below hb1 (by simp)
    have B1 : Below w.heap.size w w1 := by repeat (first | exact Below.refl _ _ | assumption | refine Below.setCell ?_ (by first | omega | (simp; done) | (simp; omega)) _ | refine Below.alloc ?_ (by first | omega | (simp; done) | (simp; omega)) _ | refine below_drewN ?_ _ | refine Below.drew ?_ | refine Below.trans ?_ (Below.mono (by assumption) (by first | omega | (simp; done) | (simp; omega))))
    go_wp2
    go_loopw [3, 4] (fun v i wr => ∃ (t : Nat) (n : Int), t ≤ 64 ∧ i = .int .i64 ((t : Int) - 1) ∧ v = .int .u64 n ∧ Open s n t ∧ CellN wr w.heap.size (decide (a < 0)) a.natAbs ∧ w.heap.size < wr.heap.size ∧ Below w.heap.size w wr) (fun _ i _ => (intOf i + 1).toNat)
    case atStart => exact ⟨64, 0, by omega, by go_num, rfl, O.out, C1, z1, B1⟩
    case round =>
      clear C1 B1 z1 hb1
      obtain ⟨tt, n, ht, rfl, rfl, K, C, z, hbr⟩ := hrel
      cases tt with
      | zero =>
        have F := Lib.hid (show n = rootI a by rw [E.out]; have := K.lo; have := K.hi; simp at this; omega)
        rw [show (((0 : Nat) : Int) - 1) = -1 from rfl]
        clear K
        go_wp2
        go_ret
        exact ⟨retI F.out, hbr⟩
      | succ u =>
        obtain ⟨q, hq, q1, q2, HQ⟩ := K.fits
        have n0 := K.n0
        rw [show (((u + 1 : Nat) : Int) - 1) = u by omega]
        have Q0 : 0 ≤ (n + q) * (n + q) := Int.mul_nonneg (by omega) (by omega)
        have Q1 : (n + q) * (n + q) < 340282366920938463463374607431768211456 := by
          have := Int.mul_le_mul q2 q2 (show 0 ≤ n + q by omega) (by omega : (0 : Int) ≤ 18446744073709551615)
          omega
        have HS := Lib.hid (startN1 (B := w.heap.size) (w := w) C z (by omega) hbr)
        have HK := Lib.hid K
        clear K C
        by_cases c : a < (n + q) * (n + q)
        · have c2 : (a.natAbs : Int) < (n + q) * (n + q) := by rw [NA.out]; exact c
          have N := Lib.hid (HK.out.down (by rw [← HQ.out]; exact KS.out.lt_of (by omega) c))
          clear c
          go_wp2
          go_region_held3 (fun W => (W.cell? ⟨w.heap.size, 0, none⟩ = some (.bool (decide (a < 0))) ∧ W.cell? ⟨w.heap.size, 1, none⟩ = some (.int .u64 (d0 (a.natAbs))) ∧ W.cell? ⟨w.heap.size, 2, none⟩ = some (.int .u64 (d1 (a.natAbs))) ∧ W.cell? ⟨w.heap.size, 3, none⟩ = some (.int .u64 (d2 (a.natAbs))) ∧ W.cell? ⟨w.heap.size, 4, none⟩ = some (.int .u64 (d3 (a.natAbs)))) ∧ w.heap.size < W.heap.size ∧ w.heap.size ≤ W.heap.size ∧ Below w.heap.size w W)
            (first | exact keepN1 ((Below.refl _ _).drew) HS.out | exact keepN1 hb (by assumption))
            (first
              | (go_at_call 60; refine (square_any _ _ (by omega) (by omega)).mono ?_; rintro e w' ⟨rfl, hb⟩)
              | (go_at_call 37; refine (less_any _ _ _ A.1 A.2 Q0 Q1).mono ?_; rintro e w' ⟨rfl, hb⟩))
          go_wp2
          go_roundw
          case rel => exact ⟨u, n, by omega, by go_num, rfl, N.out, (cellN_of (B := w.heap.size) (w := w) (by assumption)).1, (cellN_of (B := w.heap.size) (w := w) (by assumption)).2.1, (cellN_of (by assumption)).2.2⟩
          case measure => simp [intOf]
        · have c2 : decide ((a.natAbs : Int) < (n + q) * (n + q)) = false := by rw [NA.out, decide_eq_false_iff_not]; exact c
          have N := Lib.hid (show Open s (n + q) u by have := HK.out.up (by rw [← HQ.out]; exact KS.out.le_of (by omega)); rwa [← HQ.out] at this)
          clear c
          go_wp2
          go_region_held3 (fun W => (W.cell? ⟨w.heap.size, 0, none⟩ = some (.bool (decide (a < 0))) ∧ W.cell? ⟨w.heap.size, 1, none⟩ = some (.int .u64 (d0 (a.natAbs))) ∧ W.cell? ⟨w.heap.size, 2, none⟩ = some (.int .u64 (d1 (a.natAbs))) ∧ W.cell? ⟨w.heap.size, 3, none⟩ = some (.int .u64 (d2 (a.natAbs))) ∧ W.cell? ⟨w.heap.size, 4, none⟩ = some (.int .u64 (d3 (a.natAbs)))) ∧ w.heap.size < W.heap.size ∧ w.heap.size ≤ W.heap.size ∧ Below w.heap.size w W)
            (first | exact keepN1 ((Below.refl _ _).drew) HS.out | exact keepN1 hb (by assumption))
            (first
              | (go_at_call 60; refine (square_any _ _ (by omega) (by omega)).mono ?_; rintro e w' ⟨rfl, hb⟩)
              | (go_at_call 37; refine (less_any _ _ _ A.1 A.2 Q0 Q1).mono ?_; rintro e w' ⟨rfl, hb⟩))
          go_wp2
          go_roundw
          case rel => exact ⟨u, n + q, by omega, by go_num, rfl, N.out, (cellN_of (B := w.heap.size) (w := w) (by assumption)).1, (cellN_of (B := w.heap.size) (w := w) (by assumption)).2.1, (cellN_of (by assumption)).2.2⟩
          case measure => simp [intOf]
end Go.Proofs.Ytmdcfnifbkpedaa
