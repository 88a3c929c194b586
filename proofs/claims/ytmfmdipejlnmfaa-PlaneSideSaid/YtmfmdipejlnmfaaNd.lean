/- Contracts of the document's plane: on, opposite. -/
import Derived.Test.YtmfmdipejlnmfaaNc
import Derived.Test.YtmfmdipejlnmfaaBg
namespace Go.Proofs.Ytmfmdipejlnmfaa
open Go.RowKit
set_option linter.unusedVariables false
set_option linter.unusedSimpArgs false

theorem BW.h5 {W : World} {n : Nat} {a b c d e : Value} (k : BW W n [a, b, c, d, e]) : W.cell? ⟨n, 0, none⟩ = some a ∧ W.cell? ⟨n, 1, none⟩ = some b ∧ W.cell? ⟨n, 2, none⟩ = some c ∧ W.cell? ⟨n, 3, none⟩ = some d ∧ W.cell? ⟨n, 4, none⟩ = some e := ⟨k.c 0 _ rfl, k.c 1 _ rfl, k.c 2 _ rfl, k.c 3 _ rfl, k.c 4 _ rfl⟩
set_option maxHeartbeats 1000000 in
theorem rOn_any (ax ay bx by' px py : Int) (w : World) :
    Calls Try.prog 32 #[.agg #[.int .i64 ax, .int .i64 ay], .agg #[.int .i64 bx, .int .i64 by'], .agg #[.int .i64 px, .int .i64 py]] w fun e w' => e = .returned (.bool (onB ⟨ax, ay⟩ ⟨bx, by'⟩ ⟨px, py⟩)) ∧ Below w.heap.size w w' := by
  have X := Lib.hid (fun (W : World) => rBetween_any px ax bx W)
  have Y := Lib.hid (fun (W : World) => rBetween_any py ay by' W)
  have E := Lib.hid (show (btw px ax bx && btw py ay by') = onB ⟨ax, ay⟩ ⟨bx, by'⟩ ⟨px, py⟩ from rfl)
  rw [← E.out]
  generalize btw px ax bx = s at *
  generalize btw py ay by' = t at *
  clear E
  cases s with
  | false =>
    go_enter Try.func32, Try.ntmps32
    go_wp2_with fail
    refine (X.out _).mono ?_
    rintro e w1 ⟨rfl, rfl⟩
    go_wp2
    go_ret
    exact ⟨rfl, by repeat (first | exact Below.refl _ _ | assumption | refine Below.setCell ?_ (by first | omega | (simp; done) | (simp; omega)) _ | refine Below.alloc ?_ (by first | omega | (simp; done) | (simp; omega)) _ | refine below_drewN ?_ _ | refine Below.drew ?_ | refine Below.trans ?_ (Below.mono (by assumption) (by first | omega | (simp; done) | (simp; omega))))⟩
  | true =>
    go_enter Try.func32, Try.ntmps32
    go_wp2_with fail
    refine (X.out _).mono ?_
    rintro e w1 ⟨rfl, rfl⟩
    go_wp2_with fail
    refine (Y.out _).mono ?_
    rintro e w1 ⟨rfl, rfl⟩
    go_wp2
    go_ret
    exact ⟨by simp, by repeat (first | exact Below.refl _ _ | assumption | refine Below.setCell ?_ (by first | omega | (simp; done) | (simp; omega)) _ | refine Below.alloc ?_ (by first | omega | (simp; done) | (simp; omega)) _ | refine below_drewN ?_ _ | refine Below.drew ?_ | refine Below.trans ?_ (Below.mono (by assumption) (by first | omega | (simp; done) | (simp; omega))))⟩
set_option maxHeartbeats 2000000 in
theorem rOpposite_any (n : Int) (w : World) (h : In128 n) :
    Calls Try.prog 29 #[.agg #[.bool (decide (n < 0)), .int .u64 (d0 (n.natAbs)), .int .u64 (d1 (n.natAbs)), .int .u64 (d2 (n.natAbs)), .int .u64 (d3 (n.natAbs))]] w fun e w' => e = .returned (.agg #[.bool (decide (-n < 0)), .int .u64 (d0 ((-n).natAbs)), .int .u64 (d1 ((-n).natAbs)), .int .u64 (d2 ((-n).natAbs)), .int .u64 (d3 ((-n).natAbs))]) ∧ Below w.heap.size w w' := by
  have Z := Lib.hid (fun (b : Bool) (W : World) => Zero_any b (n.natAbs : Int) W (by omega) (by unfold In128 at h; omega))
  have E := nv_neg n
  rw [E.2, ← E.1]
  clear E h
  generalize d0 (n.natAbs : Int) = x0 at *
  generalize d1 (n.natAbs : Int) = x1 at *
  generalize d2 (n.natAbs : Int) = x2 at *
  generalize d3 (n.natAbs : Int) = x3 at *
  generalize decide ((n.natAbs : Int) = 0) = z at *
  generalize decide (n < 0) = s at *
  cases s with
  | true =>
    go_enter Try.func29, Try.ntmps29
    go_wp2
    exact bodyPost_ret (v := .agg #[.bool false, .int .u64 x0, .int .u64 x1, .int .u64 x2, .int .u64 x3]) (by simp [results, Try.results29, go_sem]) rfl ⟨rfl, by repeat (first | exact Below.refl _ _ | assumption | refine Below.setCell ?_ (by first | omega | (simp; done) | (simp; omega)) _ | refine Below.alloc ?_ (by first | omega | (simp; done) | (simp; omega)) _ | refine below_drewN ?_ _ | refine Below.drew ?_ | refine Below.trans ?_ (Below.mono (by assumption) (by first | omega | (simp; done) | (simp; omega))))⟩
  | false =>
    go_enter Try.func29, Try.ntmps29
    go_wp2_with fail
    refine calls_gen (S := fun W => BW W w.heap.size [.bool false, .int .u64 x0, .int .u64 x1, .int .u64 x2, .int .u64 x3] ∧ BW W (w.heap.size + 1) [.bool false, .int .u64 0, .int .u64 0, .int .u64 0, .int .u64 0] ∧ Below w.heap.size w W) ⟨(BW.new w w.heap.size [_, _, _, _, _] _ rfl).alloc _, BW.new _ _ [_, _, _, _, _] _ (by simp), by repeat (first | exact Below.refl _ _ | assumption | refine Below.setCell ?_ (by first | omega | (simp; done) | (simp; omega)) _ | refine Below.alloc ?_ (by first | omega | (simp; done) | (simp; omega)) _ | refine below_drewN ?_ _ | refine Below.drew ?_ | refine Below.trans ?_ (Below.mono (by assumption) (by first | omega | (simp; done) | (simp; omega))))⟩ (fun W0 hS => ?_)
    have A0 := Lib.hid hS.1
    have R0 := Lib.hid hS.2.1
    have L0 := Lib.hid hS.2.2
    clear hS
    refine (Z.out _ _).mono ?_
    rintro e w1 ⟨rfl, h⟩
    have A1 := Lib.hid (A0.out.below h A0.out.lt)
    have R1 := Lib.hid (R0.out.below h R0.out.lt)
    have L1 := Lib.hid (L0.out.trans (h.mono L0.out.size))
    clear h A0 R0 L0 Z
    obtain ⟨a0, a1, a2, a3, a4⟩ := A1.out.h5
    have af := A1.out.f
    obtain ⟨r0, r1, r2, r3, r4⟩ := R1.out.h5
    have rf := R1.out.f
    have ne : w.heap.size + 1 ≠ w.heap.size := by omega
    go_wp2
    exact bodyPost_ret (v := .agg #[.bool (!z), .int .u64 x0, .int .u64 x1, .int .u64 x2, .int .u64 x3]) (by simp [results, Try.results29, go_sem, r0, r1, r2, r3, r4, a0, a1, a2, a3, a4]) rfl ⟨by simp, by
      have K := L1.out
      refine ((((((K.setCell (p := ⟨w.heap.size, 0, none⟩) ?_ _).setCell (p := ⟨w.heap.size + 1, 0, none⟩) ?_ _).setCell (p := ⟨w.heap.size + 1, 1, none⟩) ?_ _).setCell (p := ⟨w.heap.size + 1, 2, none⟩) ?_ _).setCell (p := ⟨w.heap.size + 1, 3, none⟩) ?_ _).setCell (p := ⟨w.heap.size + 1, 4, none⟩) ?_ _) <;> simp⟩
end Go.Proofs.Ytmfmdipejlnmfaa
